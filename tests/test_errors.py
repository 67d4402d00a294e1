import unittest

from bitmill import errors

PLAIN = ["BadDeed", "BadReach", "NoDeed", "BadCount", "NoMend"]
NUMBERED = ["BadImage", "BadGiven", "BadList"]


class Errors(unittest.TestCase):
    def test_each_is_a_mill_error_and_a_value_error(self):
        self.assertTrue(issubclass(errors.MillError, ValueError))
        for name in PLAIN + NUMBERED + ["BadRow"]:
            self.assertTrue(issubclass(getattr(errors, name), errors.MillError), name)

    def test_none_is_under_another_one(self):
        kinds = [getattr(errors, name) for name in PLAIN + NUMBERED + ["BadRow"]]
        for kind in kinds:
            self.assertEqual([other for other in kinds if issubclass(kind, other)], [kind])

    def test_values(self):
        for name in NUMBERED:
            self.assertEqual(getattr(errors, name)(7).number, 7)
            self.assertEqual(getattr(errors, name)(number=0).number, 0)
        refused = errors.BadRow(3, "form")
        self.assertEqual((refused.row, refused.why), (3, "form"))
        refused = errors.BadRow(why="long", row=0)
        self.assertEqual((refused.row, refused.why), (0, "long"))


if __name__ == "__main__":
    unittest.main()
