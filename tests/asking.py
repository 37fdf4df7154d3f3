"""What the tests share: the calls by their names, and asking them of the desk."""

from roomsharedesk.desk import answers

GREATEST = 4294967295


def begin(pupils):
    return [0, pupils]


def room(beds):
    return [1, beds]


def beds(number, so_many):
    return [2, number, so_many]


def wish(a, b, on=1):
    return [3, a, b, on]


def bar(a, b, on=1):
    return [4, a, b, on]


def pin(a, where):
    return [5, a, where]


def as_one_list(calls):
    return [number for call in calls for number in call]


def ask(*calls):
    """The whole list that is given back."""
    return answers(as_one_list(calls))


def each_one(*numbers):
    """The whole list that is due where each call answers one number."""
    return [part for number in numbers for part in (1, number)]


def all_pairs(pupils):
    return [(a, b) for a in range(pupils) for b in range(pupils) if a != b]


def fill():
    return [6]


def move(a, number):
    return [7, a, number]


def swap(a, b):
    return [8, a, b]


def who(number):
    return [9, number]


def weigh():
    return [10]


def state():
    return [11]


def taken_apart(given):
    """Call by call what is answered, without how many numbers that is."""
    parts = []
    at = 0
    while at < len(given):
        behind = at + 1 + given[at]
        parts.append(given[at + 1:behind])
        at = behind
    return parts


def answered(*calls):
    """Call by call what is answered: the number where it is one, else the list of them."""
    parts = taken_apart(ask(*calls))
    return [part[0] if len(part) == 1 else part for part in parts]


def last_answered(*calls):
    """What the last call answers, as a list."""
    return taken_apart(ask(*calls))[-1]


def filling_behind(*calls):
    """Of each pupil the room, read by who, or None where there's no filling."""
    behind = taken_apart(ask(*calls, state(), who(0), who(1), who(2), who(3)))[-5:]
    if behind[0][0] != 1:
        return None
    rooms = {}
    for number, part in enumerate(behind[1:]):
        for pupil in part[1:]:
            assert pupil not in rooms, "a pupil is in two rooms"
            rooms[pupil] = number
    return [rooms[pupil] for pupil in range(len(rooms))]
