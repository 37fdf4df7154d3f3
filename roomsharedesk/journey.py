"""The journey: how many pupils, which rooms, wishes, bars and pins there are, and the filling."""

NOT_THERE = -2
NO_PLACE_LEFT = -12
NOTHING_TO_CHANGE = -17
OUT_OF_RANGE = -22
NO_PLAN = -61

MOST_PUPILS = 8
MOST_ROOMS = 4
MOST_BEDS = 8
MOST_PAIRS = 32


def tell_pair(pairs, pair, on):
    """Tell a pair (on 1) or take it back (on 0): 0, or the refusal."""
    told = pair in pairs
    if told == (on == 1):
        return NOTHING_TO_CHANGE
    if told:
        pairs.pop(pair)
        return 0
    if len(pairs) >= MOST_PAIRS:
        return NO_PLACE_LEFT
    pairs[pair] = True
    return 0


class Journey:
    """One plan with its pins and its filling; each call answers a number, below 0 if it is refused."""

    def __init__(self):
        self.start_anew(0)

    def start_anew(self, pupils):
        """No pupils means that there is no plan."""
        self.pupils = pupils
        # Each room's beds.
        self.rooms = []
        # The pairs that are told are the keys; a bar has the lesser number first.
        self.wishes = {}
        self.bars = {}
        # Of each pupil 0, or the room's number and 1.
        self.pins = [0] * pupils
        # Of each pupil the room, or None for the whole where there is no filling.
        self.filling = None

    def filling_left(self):
        """1 if there is a filling still, else 0."""
        if self.filling is None:
            return 0
        return 1

    def begin(self, pupils):
        """Begin a plan anew."""
        if pupils < 1 or pupils > MOST_PUPILS:
            return OUT_OF_RANGE
        self.start_anew(pupils)
        return 0

    def room(self, beds):
        """One more room: its number."""
        if self.pupils == 0:
            return NO_PLAN
        if beds > MOST_BEDS:
            return OUT_OF_RANGE
        if len(self.rooms) >= MOST_ROOMS:
            return NO_PLACE_LEFT
        self.rooms.append(beds)
        return len(self.rooms) - 1

    def beds(self, room, beds):
        """Give a room so many beds."""
        # Without a plan there are no rooms, so that needs no asking of its own.
        if room >= len(self.rooms):
            return NOT_THERE
        if beds > MOST_BEDS:
            return OUT_OF_RANGE
        self.rooms[room] = beds
        return self.filling_left()

    def pair_refusal(self, a, b, on):
        """Why a wish or a bar can't be told of a and b, whatever is told already; else 0."""
        if self.pupils == 0:
            return NO_PLAN
        if a >= self.pupils or b >= self.pupils or a == b or on > 1:
            return OUT_OF_RANGE
        return 0

    def wish(self, a, b, on):
        """Tell that a wishes to be with b, or take it back."""
        refusal = self.pair_refusal(a, b, on)
        if refusal < 0:
            return refusal
        return tell_pair(self.wishes, (a, b), on)

    def bar(self, a, b, on):
        """Tell that a and b mustn't be in one room, or take it back."""
        refusal = self.pair_refusal(a, b, on)
        if refusal < 0:
            return refusal
        refusal = tell_pair(self.bars, (min(a, b), max(a, b)), on)
        if refusal < 0:
            return refusal
        return self.filling_left()

    def pin(self, a, where):
        """Pin a to the room with the number where - 1, or to none (where 0)."""
        # Without a plan there are no pupils, so that needs no asking of its own.
        if a >= self.pupils or where > len(self.rooms):
            return NOT_THERE
        self.pins[a] = where
        return self.filling_left()
