"""What the tests share: the calls by their names, and asking them of the desk."""

from roomsharedesk.desk import answers

GREATEST = 4294967295


def begin(pupils):
    return [0, pupils]


def room(beds):
    return [1, beds]


def beds(number, so_many):
    return [2, number, so_many]


def wish(a, b, on=1):
    return [3, a, b, on]


def bar(a, b, on=1):
    return [4, a, b, on]


def pin(a, where):
    return [5, a, where]


def as_one_list(calls):
    return [number for call in calls for number in call]


def ask(*calls):
    """The whole list that is given back."""
    return answers(as_one_list(calls))


def each_one(*numbers):
    """The whole list that is due where each call answers one number."""
    return [part for number in numbers for part in (1, number)]


def all_pairs(pupils):
    return [(a, b) for a in range(pupils) for b in range(pupils) if a != b]
