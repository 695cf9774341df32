"""Keeps lights and what was seen when; tells which lights it may be, and when to look."""

MOST_BYTES = 1024
MOST_PHASES = 32
LONGEST_PHASE = 600
LONGEST_RHYTHM = 6000
MOST_LIGHTS = 16
MOST_SEEN = 100
LAST_TIME = 1000000
LAST_COLOUR = 4
# The tenths to the next change of a colour that never changes: twice the longest
# rhythm, as look never goes on for longer.
NEVER = 12000

OUT_OF_RANGE = -1
TOO_LONG = -2
OTHER_COLOUR = -3
NO_LOOK_TELLS = -3
NOT_SURE = -3
NO_SUCH_LIGHT = -4
FULL = -5
FAULTY = -6

LIGHT = 0
SEE = 1
FORGET = 2
FITS = 3
WHICH = 4
EXPECT = 5
LOOK = 6
# By the calls' numbers; light is not among them, as its length stands in the call itself.
CALL_LENGTHS = {1: 3, 2: 1, 3: 2, 4: 1, 5: 2, 6: 2, 7: 1}

BLANK = 32
NOUGHT = 48
NINE = 57
# The bytes of "-", "W", "R", "G" and "Y".
COLOUR_OF_SIGN = {45: 0, 87: 1, 82: 2, 71: 3, 89: 4}


def split_at_blanks(text):
    """The bytes of each phase; a blank too many leaves a phase of no bytes."""
    pieces = []
    piece = []
    for byte in text:
        if byte == BLANK:
            pieces.append(piece)
            piece = []
        else:
            piece.append(byte)
    pieces.append(piece)
    return pieces


def read_length(digits):
    """The tenths that the digits tell, or None if they tell no phase's length."""
    if len(digits) == 0 or digits[0] == NOUGHT:
        return None
    length = 0
    for digit in digits:
        if digit < NOUGHT or digit > NINE:
            return None
        length = length * 10 + digit - NOUGHT
        # Left at once, so that a thousand digits never make a huge number.
        if length > LONGEST_PHASE:
            return None
    return length


def read_phase(piece):
    """The phase as (colour, tenths), or None if the bytes are no phase."""
    if len(piece) == 0 or piece[0] not in COLOUR_OF_SIGN:
        return None
    length = read_length(piece[1:])
    if length is None:
        return None
    return (COLOUR_OF_SIGN[piece[0]], length)


def first_fault(phases):
    """The place of the first phase at fault, or None if they make a rhythm."""
    together = 0
    for place, phase in enumerate(phases):
        if phase is None or place == MOST_PHASES:
            return place
        together = together + phase[1]
        if together > LONGEST_RHYTHM:
            return place
    return None


def colours_once_round(phases):
    """The colour at each tenth, from the first phase to the end of the last."""
    colours = []
    for colour, length in phases:
        colours.extend([colour] * length)
    return colours


def one_period(colours):
    """The colours of one period of the rhythm that is these, round and round."""
    whole = len(colours)
    # Whatever comes again after two times also does after their greatest common
    # divisor, so the least period divides the whole and no other need be tried.
    for period in range(1, whole):
        if whole % period == 0 and colours[:period] * (whole // period) == colours:
            return colours[:period]
    return colours


def tenths_to_change(colours):
    """At each tenth of the period, how many tenths there are to the next other colour."""
    period = len(colours)
    if period == 1:
        return [NEVER]
    lasts = [0] * period
    left = 0
    # Twice round, as what is at the end of the period goes on at its beginning.
    for place in range(2 * period - 1, -1, -1):
        here = place % period
        left = left + 1 if colours[here] == colours[(here + 1) % period] else 1
        lasts[here] = left
    return lasts


def first_run_from(runs, k):
    """The place of the first of the runs, rising, that has a k not below this, or their number."""
    low = 0
    high = len(runs)
    # By halving, as expect and look ask for it often.
    while low < high:
        middle = (low + high) // 2
        if runs[middle][1] > k:
            high = middle
        else:
            low = middle + 1
    return low


class Light:
    """A rhythm, and the k so that it may be what was seen k later.

    The k are kept as runs, rising: the first k, and the one behind the last. With at
    most 32 phases there are few runs where there are thousands of k.
    """

    def __init__(self, colours):
        self.colours = colours
        self.lasts = tenths_to_change(colours)
        self.runs = [(0, len(colours))]

    def widen(self):
        """Nothing is seen any more: every k below the period fits again."""
        self.runs = [(0, len(self.colours))]

    def narrow(self, time, colour):
        """Keep only the k at which it shows this colour at this time."""
        period = len(self.colours)
        left = []
        for first, behind in self.runs:
            k = first
            while k < behind:
                place = (time + k) % period
                end = min(behind, k + self.lasts[place])
                if self.colours[place] == colour:
                    left.append((k, end))
                k = end
        self.runs = left

    def how_many(self):
        """How many k fit."""
        return sum([behind - first for first, behind in self.runs])

    def last_places(self, time):
        """Where in the rhythm it may be at this time: of each stretch of one colour the last such place."""
        period = len(self.colours)
        places = []
        end = 0
        number = 0
        while number < len(self.runs):
            k = max(end, self.runs[number][0])
            end = k + self.lasts[(time + k) % period]
            number = first_run_from(self.runs, end)
            # A run that goes on beyond the end fills the stretch up to it; else the one ahead is its last.
            if number < len(self.runs) and self.runs[number][0] < end:
                last = end - 1
            else:
                last = self.runs[number - 1][1] - 1
            places.append((time + last) % period)
        return places

    def shown_at(self, time):
        """The colours that it may show at this time, each once."""
        return sorted(set([self.colours[place] for place in self.last_places(time)]))

    def steady(self, time):
        """How many tenths from this time on it goes on, for each of the k, as it then shows."""
        return min([self.lasts[place] for place in self.last_places(time)])


def count_colours(lights, time):
    """Of each colour, how many of the lights may show it at this time."""
    counts = [0] * (LAST_COLOUR + 1)
    for kept in lights:
        for colour in kept.shown_at(time):
            counts[colour] = counts[colour] + 1
    return counts


def tells_something(counts):
    """Whether more than one colour may be shown."""
    return len([count for count in counts if count > 0]) > 1


class Watch:
    """The lights, and what was seen; each call's method gives back its answer."""

    def __init__(self):
        self.lights = []
        self.seen = {}

    def light(self, text):
        """Add the light of this text."""
        if len(text) > MOST_BYTES:
            return [TOO_LONG]
        phases = [read_phase(piece) for piece in split_at_blanks(text)]
        fault = first_fault(phases)
        if fault is not None:
            return [FAULTY, fault]
        if len(self.lights) == MOST_LIGHTS:
            return [FULL]
        added = Light(one_period(colours_once_round(phases)))
        for time, colour in self.seen.items():
            added.narrow(time, colour)
        self.lights.append(added)
        return [len(self.lights) - 1]

    def see(self, time, colour):
        """Add that this colour was seen at this time."""
        if time > LAST_TIME or colour > LAST_COLOUR:
            return [OUT_OF_RANGE]
        if time in self.seen:
            return [len(self.seen)] if self.seen[time] == colour else [OTHER_COLOUR]
        if len(self.seen) == MOST_SEEN:
            return [FULL]
        self.seen[time] = colour
        for kept in self.lights:
            kept.narrow(time, colour)
        return [len(self.seen)]

    def forget(self):
        """Drop all that was seen; the lights stay."""
        self.seen = {}
        for kept in self.lights:
            kept.widen()
        return [0]

    def fits(self, number):
        """Tell how many k fit the light of this number, the least and the greatest."""
        if number >= len(self.lights):
            return [NO_SUCH_LIGHT]
        kept = self.lights[number]
        if len(kept.runs) == 0:
            return [0]
        return [kept.how_many(), kept.runs[0][0], kept.runs[-1][1] - 1]

    def possible(self):
        """The numbers of the lights that may be it, rising."""
        return [number for number, kept in enumerate(self.lights) if len(kept.runs) > 0]

    def which(self):
        """Tell how many lights may be it, and their numbers."""
        numbers = self.possible()
        return [len(numbers)] + numbers

    def expect(self, time):
        """Tell of each colour how many lights may show it at this time."""
        if time > LAST_TIME:
            return [OUT_OF_RANGE]
        return [0] + count_colours(self.lights, time)

    def look(self, time):
        """Tell the first time from this one on at which a look tells something."""
        if time > LAST_TIME:
            return [OUT_OF_RANGE]
        lights = [self.lights[number] for number in self.possible()]
        longest = max([len(kept.colours) for kept in lights], default=0)
        # Two rhythms that are alike for as long as both periods together are alike
        # for ever (Fine and Wilf), so nothing new comes behind that.
        end = time + 2 * longest
        while time < end:
            counts = count_colours(lights, time)
            if tells_something(counts):
                return [time] + counts
            # All show one colour, and go on so until the first of them changes.
            time = time + min([kept.steady(time) for kept in lights])
        return [NO_LOOK_TELLS]

    def sure(self):
        """Tell the only light that may be it, how many k fit, and the k if it is one."""
        numbers = self.possible()
        if len(numbers) != 1:
            return [NOT_SURE]
        kept = self.lights[numbers[0]]
        if kept.how_many() == 1:
            return [numbers[0], 1, kept.runs[0][0]]
        return [numbers[0], kept.how_many()]


def call_length(calls, place):
    """How many numbers the call that begins at this place has."""
    if calls[place] == LIGHT:
        return 2 + calls[place + 1]
    return CALL_LENGTHS[calls[place]]


def answer(watch, call):
    """What the watch answers to one call."""
    if call[0] == LIGHT:
        return watch.light(call[2:])
    if call[0] == SEE:
        return watch.see(call[1], call[2])
    if call[0] == FORGET:
        return watch.forget()
    if call[0] == FITS:
        return watch.fits(call[1])
    if call[0] == WHICH:
        return watch.which()
    if call[0] == EXPECT:
        return watch.expect(call[1])
    if call[0] == LOOK:
        return watch.look(call[1])
    return watch.sure()


def answers(calls):
    """The answers to the calls on a new watch, each behind how many numbers it has."""
    watch = Watch()
    told = []
    place = 0
    while place < len(calls):
        length = call_length(calls, place)
        numbers = answer(watch, calls[place:place + length])
        told.append(len(numbers))
        told.extend(numbers)
        place = place + length
    return told
