"""Lists of deeds made lean. The deeds have no far, and their goals are numbers of deeds."""


def going_to(deed):
    """The goal of a deed in a list; None if it has none."""
    return deed[-1] if deed[0] in ("jump", "call") else None


def always_jumps(deed):
    return deed[:2] == ("jump", "always")


def leaned(deeds):
    """The deeds without those that can be done without, as often as that leaves fewer or other goals."""
    fewer = list(deeds)
    while True:
        before = fewer
        fewer = shortened([led(before, number) for number in range(len(before))])
        if fewer == before:
            return fewer


def led(deeds, number):
    """A deed of a list, its goal led on to where one comes from there without doing more than jumps."""
    deed = deeds[number]
    goal = going_to(deed)
    if goal is None:
        return deed
    end = end_of(deeds, goal)
    if end is not None:
        return deed[:-1] + (end,)
    # It leads round. Each jump that only does so may as well go to itself, which no later change undoes.
    return deed[:-1] + (number,) if always_jumps(deed) else deed


def end_of(deeds, goal):
    """Where one comes to from a goal by jumps that always jump; None if they lead round."""
    for _ in range(len(deeds) + 1):
        if goal == len(deeds) or not always_jumps(deeds[goal]):
            return goal
        goal = going_to(deeds[goal])
    return None


def shortened(deeds):
    """The deeds that are come to and do anything, with goals as they are without the others."""
    reached = numbers_reached(deeds)
    kept = [number in reached and not is_idle(deed, number) for number, deed in enumerate(deeds)]
    behind = [0]
    for keep in kept:
        behind.append(behind[-1] + (1 if keep else 0))
    return [moved(deed, behind) for deed, keep in zip(deeds, kept) if keep]


def moved(deed, behind):
    """A deed with the goal that behind tells for its goal."""
    goal = going_to(deed)
    return deed if goal is None else deed[:-1] + (behind[goal],)


def is_idle(deed, number):
    """Whether a deed of a number does nothing but to go on to the next one."""
    return deed[0] == "rest" or (deed[0] == "jump" and going_to(deed) == number + 1)


def numbers_reached(deeds):
    """The numbers of all deeds that are come to by goals and next deeds, as a dict of True."""
    reached = {}
    ahead = [0]
    while len(ahead) > 0:
        number = ahead.pop()
        if number < len(deeds) and number not in reached:
            reached[number] = True
            ahead.extend(numbers_behind(deeds[number], number))
    return reached


def numbers_behind(deed, number):
    """The numbers of the deeds that may be done right behind a deed of a number; of a back, they aren't known."""
    goals = [] if going_to(deed) is None else [going_to(deed)]
    if deed[0] in ("halt", "back") or always_jumps(deed):
        return goals
    return goals + [number + 1]
