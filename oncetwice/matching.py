"""Matching: lines between things on the left and on the right, and colours that keep them apart."""


def coloured(left, right):
    """For each line a colour from 0 on, so that no two lines of one colour meet.

    A line joins an item of left with the item of right that has the same place. At each item there
    have to be equally many lines; then there are as many colours.
    """
    colours = [None] * len(left)
    colour = 0
    while None in colours:
        bare = [line for line, told in enumerate(colours) if told is None]
        for line in matched(left, right, bare):
            colours[line] = colour
        colour += 1
    return colours


def matched(left, right, lines):
    """The list of some of these lines, one at each item of left and of right."""
    starting = {}
    for line in lines:
        starting.setdefault(left[line], []).append(line)
    taken = {}
    for item in starting:
        take_one(left, right, starting, item, taken, {})
    return list(taken.values())


def take_one(left, right, starting, item, taken, tried):
    """Takes a line for this item of left, other items changing theirs if need be; whether it could."""
    for line in starting[item]:
        goal = right[line]
        if goal not in tried:
            tried[goal] = True
            if goal not in taken or take_one(left, right, starting, left[taken[goal]], taken, tried):
                taken[goal] = line
                return True
    return False
