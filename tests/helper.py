"""Builds calls, takes answers apart, and tells by the document's own words what is to be answered."""

import functools
import math

from coastlights.watch import answers

SIGNS = "-WRGY"


def light(text):
    """The call light; text is a str or the bytes as a list."""
    numbers = [ord(sign) for sign in text] if isinstance(text, str) else list(text)
    return [0, len(numbers)] + numbers


def see(time, colour):
    return [1, time, colour]


def forget():
    return [2]


def fits(number):
    return [3, number]


def which():
    return [4]


def expect(time):
    return [5, time]


def look(time):
    return [6, time]


def sure():
    return [7]


def sees(seen):
    """The calls see of all that was seen, pairs of a time and a colour."""
    return [see(time, colour) for time, colour in seen]


def joined(calls):
    return [number for call in calls for number in call]


def taken_apart(told):
    """The answers, one list each, out of the one list that is given back."""
    parts = []
    place = 0
    while place < len(told):
        count = told[place]
        if count < 1 or place + 1 + count > len(told):
            raise ValueError(f"no answers: {told!r}")
        parts.append(told[place + 1:place + 1 + count])
        place += 1 + count
    return parts


def ask(*calls):
    """The answers of the calls, one list each."""
    return taken_apart(answers(joined(calls)))


def last(*calls):
    """The answer of the last of the calls."""
    return ask(*calls)[-1]


def weight(calls):
    """What a case of these calls weighs; the length ahead of a text weighs nothing."""
    numbers = sum(len(call) - (1 if call[0] == 0 else 0) for call in calls)
    return 60 * len(calls) + 25000 * sum(call[0] == 6 for call in calls) + numbers


@functools.lru_cache(maxsize=None)
def phases_of(text):
    return [(SIGNS.index(part[0]), int(part[1:])) for part in text.split(" ")]


def colour_at(text, time):
    """The colour at a time, found by going through the phases one by one."""
    phases = phases_of(text)
    left = time % sum(length for colour, length in phases)
    for colour, length in phases:
        if left < length:
            return colour
        left -= length


@functools.lru_cache(maxsize=None)
def period_of(text):
    """The least time above 0 behind which all colours come again, by trying all."""
    whole = sum(length for colour, length in phases_of(text))
    colours = [colour_at(text, time) for time in range(2 * whole)]
    for period in range(1, whole + 1):
        if all(colours[time] == colours[time + period] for time in range(whole)):
            return period


def fitting(text, seen):
    """Each k below the period so that the light may be it, k later."""
    return [
        k for k in range(period_of(text))
        if all(colour_at(text, time + k) == colour for time, colour in seen)
    ]


def fits_answer(ks):
    """What fits is to answer if these are the k."""
    return [len(ks), min(ks), max(ks)] if ks else [0]


def possible_pairs(texts, seen):
    """Each light and k so that the light may be it, k later: pairs (number, k)."""
    return [(number, k) for number, text in enumerate(texts) for k in fitting(text, seen)]


def lights_of(pairs):
    """The numbers of the lights that may be it, rising."""
    return sorted({number for number, k in pairs})


def counts_at(texts, pairs, time):
    """Of each colour, how many lights may show it at this time."""
    shown = {(number, colour_at(texts[number], time + k)) for number, k in pairs}
    return [sum(colour == other for number, other in shown) for colour in range(5)]


def tells(texts, pairs, time):
    """Whether two of the pairs show different colours at this time."""
    return len({colour_at(texts[number], time + k) for number, k in pairs}) > 1


def first_telling(texts, pairs, time):
    """The first time from this one on at which a look tells something, or None if there's none.

    Behind the least common multiple of all periods everything comes again, so that is long enough.
    """
    stretch = math.lcm(*[period_of(texts[number]) for number, k in pairs])
    for later in range(time, time + stretch):
        if tells(texts, pairs, later):
            return later
    return None


def look_answer(texts, pairs, time):
    """What look is to answer if these are the pairs."""
    found = first_telling(texts, pairs, time)
    return [-3] if found is None else [found] + counts_at(texts, pairs, found)


def sure_answer(pairs):
    """What sure is to answer if these are the pairs."""
    numbers = lights_of(pairs)
    if len(numbers) != 1:
        return [-3]
    return [numbers[0], len(pairs)] + ([pairs[0][1]] if len(pairs) == 1 else [])


def drawn_text(dice):
    """A short rhythm, of few colours so that many are nearly alike."""
    signs = dice.choice(("-W", "WR", "-WRGY"))
    return " ".join(dice.choice(signs) + str(dice.randint(1, 3)) for phase in range(dice.randint(1, 4)))


def drawn_variant(dice, text):
    """A rhythm that is the same in other words, the same begun elsewhere, or nearly the same."""
    parts = text.split(" ")
    turn = dice.randrange(len(parts))
    phase = parts[turn]
    kind = dice.randrange(4)
    if kind == 0:
        return " ".join(parts * 2)
    if kind == 1:
        return " ".join(parts[turn:] + parts[:turn])
    if kind == 2:
        return " ".join(parts[:turn] + [phase[0] + "1", phase] + parts[turn + 1:])
    return " ".join(parts[:turn] + [dice.choice(SIGNS) + phase[1:]] + parts[turn + 1:])


def drawn_case(dice):
    """Texts of one to four lights, and what was seen: mostly what one of them shows, begun at some time."""
    texts = [drawn_text(dice)]
    while len(texts) < 4 and dice.random() < 0.6:
        texts.append(drawn_variant(dice, dice.choice(texts)) if dice.random() < 0.7 else drawn_text(dice))
    text = dice.choice(texts)
    k = dice.randrange(period_of(text))
    near = range(30) if dice.random() < 0.5 else range(999000, 1000001)
    times = dice.sample(near, dice.randint(0, 12))
    seen = [(time, colour_at(text, time + k)) for time in times]
    if seen and dice.random() < 0.1:
        seen[0] = (seen[0][0], dice.randrange(5))
    return texts, seen
