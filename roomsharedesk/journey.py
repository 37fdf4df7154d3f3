"""The journey: how many pupils, which rooms, wishes, bars and pins there are, and the filling."""

from roomsharedesk.fillings import (
    MOST_ROOMS,
    best_filling,
    count_content,
    count_together,
    is_too_full,
    keeps_to_pins,
)

BAR_BROKEN = -1
NOT_THERE = -2
NO_PLACE_LEFT = -12
PINNED_ELSEWHERE = -13
NOTHING_TO_CHANGE = -17
OUT_OF_RANGE = -22
TOO_FULL = -28
NO_WAY_TO_FILL = -33
NO_PLAN = -61
NO_FILLING = -61

MOST_PUPILS = 8
MOST_BEDS = 8
MOST_PAIRS = 32


def tell_pair(pairs, pair, on):
    """Tell a pair (on 1) or take it back (on 0): 0, or the refusal."""
    told = pair in pairs
    if told == (on == 1):
        return NOTHING_TO_CHANGE
    if told:
        pairs.pop(pair)
        return 0
    if len(pairs) >= MOST_PAIRS:
        return NO_PLACE_LEFT
    pairs[pair] = True
    return 0


class Journey:
    """One plan with its pins and its filling.

    A call answers a number, below 0 if it is refused; fill, who, weigh and state answer a list of numbers, which is
    the refusal alone if they are refused.
    """

    def __init__(self):
        self.start_anew(0)

    def start_anew(self, pupils):
        """No pupils means that there is no plan."""
        self.pupils = pupils
        # Each room's beds.
        self.rooms = []
        # The pairs that are told are the keys; a bar has the lesser number first.
        self.wishes = {}
        self.bars = {}
        # Of each pupil 0, or the room's number and 1.
        self.pins = [0] * pupils
        # Of each pupil the room, or None for the whole where there is no filling.
        self.filling = None

    def has_filling(self):
        """1 if there is a filling, else 0."""
        if self.filling is None:
            return 0
        return 1

    def filling_refusal(self, filling):
        """Why a filling may not be or doesn't keep to pins; else 0."""
        if not keeps_to_pins(filling, self.pins):
            return PINNED_ELSEWHERE
        if is_too_full(filling, self.rooms):
            return TOO_FULL
        if count_together(filling, self.bars) > 0:
            return BAR_BROKEN
        return 0

    def look_anew(self):
        """Give up a filling that isn't right any more: 1 if there is one still, else 0."""
        if self.filling is not None and self.filling_refusal(self.filling) < 0:
            self.filling = None
        return self.has_filling()

    def begin(self, pupils):
        """Begin a plan anew."""
        if pupils < 1 or pupils > MOST_PUPILS:
            return OUT_OF_RANGE
        self.start_anew(pupils)
        return 0

    def room(self, beds):
        """One more room: its number."""
        if self.pupils == 0:
            return NO_PLAN
        if beds > MOST_BEDS:
            return OUT_OF_RANGE
        if len(self.rooms) >= MOST_ROOMS:
            return NO_PLACE_LEFT
        self.rooms.append(beds)
        return len(self.rooms) - 1

    def beds(self, room, beds):
        """Give a room so many beds."""
        # Without a plan there are no rooms, so that needs no asking of its own.
        if room >= len(self.rooms):
            return NOT_THERE
        if beds > MOST_BEDS:
            return OUT_OF_RANGE
        self.rooms[room] = beds
        return self.look_anew()

    def pair_refusal(self, a, b, on):
        """Why a wish or a bar can't be told of a and b, whatever is told already; else 0."""
        if self.pupils == 0:
            return NO_PLAN
        if a >= self.pupils or b >= self.pupils or a == b or on > 1:
            return OUT_OF_RANGE
        return 0

    def wish(self, a, b, on):
        """Tell that a wishes to be with b, or take it back."""
        refusal = self.pair_refusal(a, b, on)
        if refusal < 0:
            return refusal
        return tell_pair(self.wishes, (a, b), on)

    def bar(self, a, b, on):
        """Tell that a and b mustn't be in one room, or take it back."""
        refusal = self.pair_refusal(a, b, on)
        if refusal < 0:
            return refusal
        refusal = tell_pair(self.bars, (min(a, b), max(a, b)), on)
        if refusal < 0:
            return refusal
        return self.look_anew()

    def pin(self, a, where):
        """Pin a to the room with the number where - 1, or to none (where 0)."""
        # Without a plan there are no pupils, so that needs no asking of its own.
        if a >= self.pupils or where > len(self.rooms):
            return NOT_THERE
        self.pins[a] = where
        return self.look_anew()

    def fill(self):
        """Take the best filling: how many are content, then how many wishes are fulfilled."""
        if self.pupils == 0:
            return [NO_PLAN]
        best = best_filling(self.rooms, self.wishes, self.bars, self.pins)
        if best is None:
            return [NO_WAY_TO_FILL]
        self.filling = best
        return self.weigh()

    def change_filling(self, filling):
        """Take another filling if it is right: how many are content."""
        refusal = self.filling_refusal(filling)
        if refusal < 0:
            return refusal
        self.filling = filling
        return count_content(filling, self.wishes)

    def move(self, a, room):
        """Put a into the room."""
        if self.filling is None:
            return NO_FILLING
        if a >= self.pupils or room >= len(self.rooms):
            return NOT_THERE
        changed = list(self.filling)
        changed[a] = room
        return self.change_filling(changed)

    def swap(self, a, b):
        """Let a and b change rooms."""
        if self.filling is None:
            return NO_FILLING
        if a >= self.pupils or b >= self.pupils:
            return NOT_THERE
        changed = list(self.filling)
        changed[a] = self.filling[b]
        changed[b] = self.filling[a]
        # Each room has as many as before, so the refusal of a room too full can't come up.
        return self.change_filling(changed)

    def who(self, room):
        """How many are in the room, then these, rising."""
        if self.filling is None:
            return [NO_FILLING]
        if room >= len(self.rooms):
            return [NOT_THERE]
        inside = [pupil for pupil in range(self.pupils) if self.filling[pupil] == room]
        return [len(inside)] + inside

    def weigh(self):
        """How many are content, then how many wishes are fulfilled."""
        if self.filling is None:
            return [NO_FILLING]
        return [count_content(self.filling, self.wishes), count_together(self.filling, self.wishes)]

    def state(self):
        """Whether there is a filling, then how many rooms, wishes and bars there are."""
        if self.pupils == 0:
            return [NO_PLAN]
        return [self.has_filling(), len(self.rooms), len(self.wishes), len(self.bars)]
