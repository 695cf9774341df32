"""Keeps lights and what was seen when, and tells which of the lights it may be."""

MOST_BYTES = 1024
MOST_PHASES = 32
LONGEST_PHASE = 600
LONGEST_RHYTHM = 6000
MOST_LIGHTS = 16
MOST_SEEN = 100
LAST_TIME = 1000000
LAST_COLOUR = 4

OUT_OF_RANGE = -1
TOO_LONG = -2
OTHER_COLOUR = -3
NO_SUCH_LIGHT = -4
FULL = -5
FAULTY = -6

LIGHT = 0
SEE = 1
FORGET = 2
FITS = 3
# By the calls' numbers; light is not among them, as its length stands in the call itself.
CALL_LENGTHS = {1: 3, 2: 1, 3: 2}

BLANK = 32
NOUGHT = 48
NINE = 57
# The bytes of "-", "W", "R", "G" and "Y".
COLOUR_OF_SIGN = {45: 0, 87: 1, 82: 2, 71: 3, 89: 4}


def split_at_blanks(text):
    """The bytes of each phase; a blank too many leaves a phase of no bytes."""
    pieces = []
    piece = []
    for byte in text:
        if byte == BLANK:
            pieces.append(piece)
            piece = []
        else:
            piece.append(byte)
    pieces.append(piece)
    return pieces


def read_length(digits):
    """The tenths that the digits tell, or None if they tell no phase's length."""
    if len(digits) == 0 or digits[0] == NOUGHT:
        return None
    length = 0
    for digit in digits:
        if digit < NOUGHT or digit > NINE:
            return None
        length = length * 10 + digit - NOUGHT
        # Left at once, so that a thousand digits never make a huge number.
        if length > LONGEST_PHASE:
            return None
    return length


def read_phase(piece):
    """The phase as (colour, tenths), or None if the bytes are no phase."""
    if len(piece) == 0 or piece[0] not in COLOUR_OF_SIGN:
        return None
    length = read_length(piece[1:])
    if length is None:
        return None
    return (COLOUR_OF_SIGN[piece[0]], length)


def first_fault(phases):
    """The place of the first phase at fault, or None if they make a rhythm."""
    together = 0
    for place, phase in enumerate(phases):
        if phase is None or place == MOST_PHASES:
            return place
        together = together + phase[1]
        if together > LONGEST_RHYTHM:
            return place
    return None


def colours_once_round(phases):
    """The colour at each tenth, from the first phase to the end of the last."""
    colours = []
    for colour, length in phases:
        colours.extend([colour] * length)
    return colours


def one_period(colours):
    """The colours of one period of the rhythm that is these, round and round."""
    whole = len(colours)
    # Whatever comes again after two times also does after their greatest common
    # divisor, so the least period divides the whole and no other need be tried.
    for period in range(1, whole):
        if whole % period == 0 and colours[:period] * (whole // period) == colours:
            return colours[:period]
    return colours


class Light:
    """A rhythm, and the k, rising, so that it may be what was seen k later.

    The k are kept and not found anew for each call, as with long rhythms and
    much seen that would be most of the work.
    """

    def __init__(self, colours):
        self.colours = colours
        self.starts = list(range(len(colours)))

    def widen(self):
        """Nothing is seen any more: every k below the period fits again."""
        self.starts = list(range(len(self.colours)))

    def narrow(self, time, colour):
        """Keep only the k at which it shows this colour at this time."""
        turn = time % len(self.colours)
        turned = self.colours[turn:] + self.colours[:turn]
        self.starts = [k for k in self.starts if turned[k] == colour]


class Watch:
    """The lights, and what was seen; each call's method gives back its answer."""

    def __init__(self):
        self.lights = []
        self.seen = {}

    def light(self, text):
        """Add the light of this text."""
        if len(text) > MOST_BYTES:
            return [TOO_LONG]
        phases = [read_phase(piece) for piece in split_at_blanks(text)]
        fault = first_fault(phases)
        if fault is not None:
            return [FAULTY, fault]
        if len(self.lights) == MOST_LIGHTS:
            return [FULL]
        added = Light(one_period(colours_once_round(phases)))
        for time, colour in self.seen.items():
            added.narrow(time, colour)
        self.lights.append(added)
        return [len(self.lights) - 1]

    def see(self, time, colour):
        """Add that this colour was seen at this time."""
        if time > LAST_TIME or colour > LAST_COLOUR:
            return [OUT_OF_RANGE]
        if time in self.seen:
            return [len(self.seen)] if self.seen[time] == colour else [OTHER_COLOUR]
        if len(self.seen) == MOST_SEEN:
            return [FULL]
        self.seen[time] = colour
        for kept in self.lights:
            kept.narrow(time, colour)
        return [len(self.seen)]

    def forget(self):
        """Drop all that was seen; the lights stay."""
        self.seen = {}
        for kept in self.lights:
            kept.widen()
        return [0]

    def fits(self, number):
        """Tell how many k fit the light of this number, the least and the greatest."""
        if number >= len(self.lights):
            return [NO_SUCH_LIGHT]
        starts = self.lights[number].starts
        if len(starts) == 0:
            return [0]
        return [len(starts), starts[0], starts[-1]]


def call_length(calls, place):
    """How many numbers the call that begins at this place has."""
    if calls[place] == LIGHT:
        return 2 + calls[place + 1]
    return CALL_LENGTHS[calls[place]]


def answer(watch, call):
    """What the watch answers to one call."""
    if call[0] == LIGHT:
        return watch.light(call[2:])
    if call[0] == SEE:
        return watch.see(call[1], call[2])
    if call[0] == FORGET:
        return watch.forget()
    return watch.fits(call[1])


def answers(calls):
    """The answers to the calls on a new watch, each behind how many numbers it has."""
    watch = Watch()
    told = []
    place = 0
    while place < len(calls):
        length = call_length(calls, place)
        numbers = answer(watch, calls[place:place + length])
        told.append(len(numbers))
        told.extend(numbers)
        place = place + length
    return told
