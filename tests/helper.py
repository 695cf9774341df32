"""Builds calls, takes answers apart, and tells by the document's own words what fits."""

from coastlights.watch import answers

SIGNS = "-WRGY"


def light(text):
    """The call light; text is a str or the bytes as a list."""
    numbers = [ord(sign) for sign in text] if isinstance(text, str) else list(text)
    return [0, len(numbers)] + numbers


def see(time, colour):
    return [1, time, colour]


def forget():
    return [2]


def fits(number):
    return [3, number]


def joined(calls):
    return [number for call in calls for number in call]


def taken_apart(told):
    """The answers, one list each, out of the one list that is given back."""
    parts = []
    place = 0
    while place < len(told):
        count = told[place]
        if count < 1 or place + 1 + count > len(told):
            raise ValueError(f"no answers: {told!r}")
        parts.append(told[place + 1:place + 1 + count])
        place += 1 + count
    return parts


def ask(*calls):
    """The answers of the calls, one list each."""
    return taken_apart(answers(joined(calls)))


def last(*calls):
    """The answer of the last of the calls."""
    return ask(*calls)[-1]


def phases_of(text):
    return [(SIGNS.index(part[0]), int(part[1:])) for part in text.split(" ")]


def colour_at(text, time):
    """The colour at a time, found by going through the phases one by one."""
    phases = phases_of(text)
    left = time % sum(length for colour, length in phases)
    for colour, length in phases:
        if left < length:
            return colour
        left -= length


def period_of(text):
    """The least time above 0 behind which all colours come again, by trying all."""
    whole = sum(length for colour, length in phases_of(text))
    colours = [colour_at(text, time) for time in range(2 * whole)]
    for period in range(1, whole + 1):
        if all(colours[time] == colours[time + period] for time in range(whole)):
            return period


def fitting(text, seen):
    """Each k below the period so that the light may be it, k later."""
    return [
        k for k in range(period_of(text))
        if all(colour_at(text, time + k) == colour for time, colour in seen)
    ]


def fits_answer(ks):
    """What fits is to answer if these are the k."""
    return [len(ks), min(ks), max(ks)] if ks else [0]
