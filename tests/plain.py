"""A second working-out of the document, as plain as can be and without a line of the program's."""

import functools
import itertools


def fits_beds(filling, beds):
    return all(len([1 for room in filling if room == number]) <= so_many for number, so_many in enumerate(beds))


def breaks_no_bar(filling, bars):
    return not any(filling[a] == filling[b] for a, b in bars)


def may_be(filling, beds, bars):
    return fits_beds(filling, beds) and breaks_no_bar(filling, bars)


def keeps(filling, pins):
    return all(where == 0 or room == where - 1 for room, where in zip(filling, pins))


def fulfilled(filling, wishes):
    return [(a, b) for a, b in wishes if filling[a] == filling[b]]


def content(filling, wishes):
    glad = {a for a, b in fulfilled(filling, wishes)}
    wishing = {a for a, b in wishes}
    return [pupil for pupil in range(len(filling)) if pupil in glad or pupil not in wishing]


def weight(filling, wishes):
    return [len(content(filling, wishes)), len(fulfilled(filling, wishes))]


@functools.lru_cache(maxsize=None)
def best(beds, wishes, bars, pins):
    """Every filling is looked at, the first one first; a later one must be better."""
    choices = [range(len(beds)) if where == 0 else [where - 1] for where in pins]
    found = None
    heaviest = [-1, -1]
    for filling in itertools.product(*choices):
        if may_be(filling, beds, bars) and weight(filling, wishes) > heaviest:
            found = filling
            heaviest = weight(filling, wishes)
    return found


class PlainJourney:
    def __init__(self):
        self.pupils = 0
        self.forget()

    def forget(self):
        self.beds_of = []
        self.wishes = []
        self.bars = []
        self.pins = [0] * self.pupils
        self.filling = None

    def right(self, filling):
        return may_be(filling, self.beds_of, self.bars) and keeps(filling, self.pins)

    def still(self):
        if self.filling is not None and not self.right(self.filling):
            self.filling = None
        return [int(self.filling is not None)]

    def begin(self, pupils):
        if pupils not in range(1, 9):
            return [-22]
        self.pupils = pupils
        self.forget()
        return [0]

    def room(self, beds):
        if not self.pupils:
            return [-61]
        if beds > 8:
            return [-22]
        if len(self.beds_of) == 4:
            return [-12]
        self.beds_of.append(beds)
        return [len(self.beds_of) - 1]

    def beds(self, room, beds):
        if room not in range(len(self.beds_of)):
            return [-2]
        if beds > 8:
            return [-22]
        self.beds_of[room] = beds
        return self.still()

    def tell(self, pairs, pair, on):
        if not self.pupils:
            return [-61]
        if not set(pair) <= set(range(self.pupils)) or len(set(pair)) == 1 or on > 1:
            return [-22]
        if (on == 1) == (pair in pairs):
            return [-17]
        if on == 1 and len(pairs) == 32:
            return [-12]
        if on == 1:
            pairs.append(pair)
        else:
            pairs.remove(pair)
        return [0]

    def wish(self, a, b, on):
        return self.tell(self.wishes, (a, b), on)

    def bar(self, a, b, on):
        told = self.tell(self.bars, tuple(sorted((a, b))), on)
        return told if told != [0] else self.still()

    def pin(self, a, where):
        if a not in range(self.pupils) or where > len(self.beds_of):
            return [-2]
        self.pins[a] = where
        return self.still()

    def fill(self):
        if not self.pupils:
            return [-61]
        found = best(tuple(self.beds_of), tuple(sorted(self.wishes)), tuple(sorted(self.bars)), tuple(self.pins))
        if found is None:
            return [-33]
        self.filling = list(found)
        return weight(found, self.wishes)

    def move(self, a, room):
        if self.filling is None:
            return [-61]
        if a not in range(self.pupils) or room not in range(len(self.beds_of)):
            return [-2]
        return self.changed({a: room}, True)

    def swap(self, a, b):
        if self.filling is None:
            return [-61]
        if a not in range(self.pupils) or b not in range(self.pupils):
            return [-2]
        return self.changed({a: self.filling[b], b: self.filling[a]}, False)

    def changed(self, rooms, asks_for_beds):
        filling = [rooms.get(pupil, room) for pupil, room in enumerate(self.filling)]
        if not keeps(filling, self.pins):
            return [-13]
        if asks_for_beds and not fits_beds(filling, self.beds_of):
            return [-28]
        if not breaks_no_bar(filling, self.bars):
            return [-1]
        self.filling = filling
        return [len(content(filling, self.wishes))]

    def who(self, room):
        if self.filling is None:
            return [-61]
        if room not in range(len(self.beds_of)):
            return [-2]
        inside = [pupil for pupil, number in enumerate(self.filling) if number == room]
        return [len(inside), *inside]

    def weigh(self):
        if self.filling is None:
            return [-61]
        return weight(self.filling, self.wishes)

    def state(self):
        if not self.pupils:
            return [-61]
        return [int(self.filling is not None), len(self.beds_of), len(self.wishes), len(self.bars)]

    def answer(self, call):
        names = "begin room beds wish bar pin fill move swap who weigh state".split()
        return getattr(self, names[call[0]])(*call[1:])


def plain_answers(calls):
    """The whole list that is due for a list of calls, each a list of its own."""
    journey = PlainJourney()
    due = []
    for call in calls:
        numbers = journey.answer(call)
        due += [len(numbers), *numbers]
    return due
