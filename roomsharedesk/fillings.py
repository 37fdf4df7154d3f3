"""Fillings, which tell of each pupil the room: what holds of one, and the best one."""

MOST_ROOMS = 4

# What a filling is worth is one whole number, and the better filling has the greater one: how many are content
# weighs most, then how many wishes are fulfilled, then, pupil by pupil, how many rooms stand behind theirs.
# So it is the sum of what each room's pupils are worth by themselves, and no two fillings are worth the same.
ONE_CONTENT = 4194304
ONE_FULFILLED = 65536
ONE_ROOM_BEHIND = (16384, 4096, 1024, 256, 64, 16, 4, 1)

# So far below 0 that nothing added makes up for it.
MAY_NOT_BE = -1099511627776


def keeps_to_pins(filling, pins):
    """Whether everyone who is pinned is there."""
    return all([where == 0 or where == room + 1 for room, where in zip(filling, pins)])


def is_too_full(filling, rooms):
    """Whether a room has more pupils than beds."""
    return any([filling.count(room) > beds for room, beds in enumerate(rooms)])


def count_together(filling, pairs):
    """How many of the pairs are in one room."""
    return len([a for a, b in pairs if filling[a] == filling[b]])


def count_content(filling, wishes):
    """How many have a wish fulfilled, or none."""
    fulfilled = {}
    for a, b in wishes:
        fulfilled[a] = fulfilled.get(a, False) or filling[a] == filling[b]
    return len([pupil for pupil in range(len(filling)) if fulfilled.get(pupil, True)])


# From here on a group of pupils is a whole number: the bit of each pupil who is in it is 1.


def group_sizes(pupils):
    """Of each group how many are in it."""
    sizes = [0]
    for group in range(1, 1 << pupils):
        sizes.append(sizes[group >> 1] + (group & 1))
    return sizes


def group_parts(pupils):
    """Of each group all groups within it."""
    parts = [[0]]
    for pupil in range(pupils):
        for group in range(1 << pupil):
            without = parts[group]
            parts.append(without + [part + (1 << pupil) for part in without])
    return parts


def paired_with(pupils, pairs):
    """Of each pupil the group of those who stand second in a pair behind them."""
    groups = [0] * pupils
    for a, b in pairs:
        groups[a] = groups[a] | (1 << b)
    return groups


def worth_together(group, wished, barred, sizes):
    """What a group in one room is worth, whichever room that is."""
    worth = 0
    for pupil in range(len(wished)):
        if group & (1 << pupil) == 0:
            continue
        if group & barred[pupil] != 0:
            return MAY_NOT_BE
        fulfilled = group & wished[pupil]
        worth += sizes[fulfilled] * ONE_FULFILLED
        if fulfilled != 0 or wished[pupil] == 0:
            worth += ONE_CONTENT
    return worth


def worth_of_order(group, pupils):
    """What a group is worth for each room behind theirs."""
    return sum([ONE_ROOM_BEHIND[pupil] for pupil in range(pupils) if group & (1 << pupil) != 0])


def pinned_to(pins, room):
    """The group of those who are pinned to the room."""
    return sum([1 << pupil for pupil, where in enumerate(pins) if where == room + 1])


def worths_in_rooms(rooms, wishes, bars, pins):
    """Of each room, of each group, what it is worth as the one that is there."""
    pupils = len(pins)
    groups = list(range(1 << pupils))
    sizes = group_sizes(pupils)
    wished = paired_with(pupils, wishes)
    barred = paired_with(pupils, bars)
    together = [worth_together(group, wished, barred, sizes) for group in groups]
    order = [worth_of_order(group, pupils) for group in groups]
    worths = []
    for room, beds in enumerate(rooms):
        here = pinned_to(pins, room)
        behind = MOST_ROOMS - 1 - room
        in_room = [MAY_NOT_BE] * len(groups)
        for group in groups:
            # Nobody is in two rooms, so who is pinned elsewhere needs no asking here.
            if sizes[group] <= beds and group & here == here:
                in_room[group] = together[group] + behind * order[group]
        worths.append(in_room)
    return worths


def best_split(group, parts, first, second):
    """The most that a group is worth with one part of it in the first and the rest in the second."""
    return max([first[part] + second[group - part] for part in parts])


def best_worth(worths, parts):
    """The most that all together are worth, told what each group is worth in each room."""
    if len(worths) == 1:
        return worths[0][-1]
    # Of each group the most that it is worth in the rooms that were looked at so far.
    best = worths[0]
    for in_room in worths[1:-1]:
        best = [best_split(group, parts[group], best, in_room) for group in range(len(parts))]
    # Behind the last room nobody is left, so there it is asked for all alone, which saves a third of the time.
    return best_split(len(parts) - 1, parts[-1], best, worths[-1])


def filling_of_worth(worth, pupils):
    """The filling that is worth so much."""
    behind = [worth // ONE_ROOM_BEHIND[pupil] % MOST_ROOMS for pupil in range(pupils)]
    return [MOST_ROOMS - 1 - rooms for rooms in behind]


def best_filling(rooms, wishes, bars, pins):
    """The best filling, or None where none may be and keeps to pins."""
    if len(rooms) == 0:
        return None
    pupils = len(pins)
    worth = best_worth(worths_in_rooms(rooms, wishes, bars, pins), group_parts(pupils))
    if worth < 0:
        return None
    return filling_of_worth(worth, pupils)
