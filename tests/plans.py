"""What plans are, told a second time and without the package, to hold its answers against."""

from itertools import product


def does(cools, wanted, row):
    """Whether each frame is dipped as often as it wants, no other is, and each cools in between."""
    for number in range(9):
        minutes = [minute for minute, dipped in enumerate(row) if dipped == number + 1]
        if len(minutes) != (wanted[number] if number < len(wanted) else 0):
            return False
        if any(late - early <= cools for early, late in zip(minutes, minutes[1:])):
            return False
    return True


def shortest(cools, wanted):
    """How long the shortest plan that does is, by trying all there are, minute by minute."""
    minutes = 0
    # Of each frame: how many dips it wants still, and for how many minutes it's warm.
    found = {tuple((dips, 0) for dips in wanted)}
    while not any(all(dips == 0 for dips, warm in state) for state in found):
        following = set()
        for state in found:
            cooler = tuple((dips, max(0, warm - 1)) for dips, warm in state)
            following.add(cooler)
            for number, (dips, warm) in enumerate(state):
                if dips > 0 and warm == 0:
                    following.add(cooler[:number] + ((dips - 1, cools),) + cooler[number + 1:])
        found = following
        minutes += 1
    return minutes


def some_wanted():
    """Every wanted of up to 3 frames, and some of 4 to 6."""
    lists = [list(wanted) for frames in range(4) for wanted in product(range(7), repeat=frames)]
    number = 1
    for k in range(200):
        wanted = []
        for place in range(4 + k % 3):
            number = number * 16807 % 2147483647
            wanted.append(number // 7 % 7)
        lists.append(wanted)
    return lists


# Wanted that is refused: of more than 6 frames, one that wants more than 6, both.
REFUSED = [
    [0] * 7, [0] * 8, [1] * 7, [6] * 7, [6] * 8,
    [7], [8], [9], [0, 7], [9, 0], [6, 6, 6, 6, 6, 7], [7, 6, 6, 6, 6, 6], [0, 0, 7, 0, 0, 0],
    [7] * 7, [9] * 8, [0, 0, 0, 0, 0, 0, 9], [7, 0, 0, 0, 0, 0, 0, 0],
]
