"""Where words stand whose jumps and calls are as short as can be."""

from bitmill.deeds import is_reached


def starts_of(sizes):
    """The place at which each of some words stands behind those ahead; and, last, the place behind all."""
    starts = [0]
    for size in sizes:
        starts.append(starts[-1] + size)
    return starts


def widened(sizes, goals):
    """The sizes with two words for each jump or call that doesn't reach its goal by one.

    goals has the number of the goal of each that may be near or far, None for all others.
    """
    wide = list(sizes)
    while True:
        starts = starts_of(wide)
        # What is too far now stays so, since others only ever grow.
        far = [number for number, goal in enumerate(goals)
               if goal is not None and wide[number] == 1 and not is_reached(starts[number], starts[goal])]
        if len(far) == 0:
            return wide
        for number in far:
            wide[number] = 2
