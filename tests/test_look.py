import random
import unittest

from helper import (
    ask, colour_at, counts_at, drawn_case, drawn_variant, expect, fits, forget, last, light, look, look_answer,
    period_of, possible_pairs, see, sees, tells,
)

TOP = 4294967295
WHITE_3000 = "W600 W600 W600 W600 W599"
WHITE_5400 = "W600 W600 W600 W600 W600 W600 W600 W600 W600"


def flashes(first, period, count):
    """The times at which a rhythm that is red for one tenth a period is red."""
    return [first + period * turn for turn in range(count)]


def first_unlike(reds, others, time):
    """The first time, not before this, at which just one of the two is red."""
    return min(red for red in set(reds) ^ set(others) if red >= time)


class Two(unittest.TestCase):
    """Two k, or two lights: the time, by sight."""

    def test_the_very_time_handed_in(self):
        self.assertEqual(last(light("W5 -5"), look(0)), [0, 1, 1, 0, 0, 0])
        self.assertEqual(last(light("W5 -5"), look(1000000)), [1000000, 1, 1, 0, 0, 0])
        self.assertEqual(last(light("W5"), light("R5"), look(77)), [77, 0, 1, 1, 0, 0])
        self.assertEqual(last(light("W5 -5"), see(0, 1), look(1)), [1, 1, 1, 0, 0, 0])

    def test_a_later_time_of_one_light(self):
        self.assertEqual(last(light("W5 -5"), see(0, 1), look(0)), [1, 1, 1, 0, 0, 0])
        self.assertEqual(last(light("W5 -5"), see(0, 1), see(3, 1), look(0)), [4, 1, 1, 0, 0, 0])
        self.assertEqual(last(light("W5 -5"), see(0, 1), see(3, 1), look(5)), [9, 1, 1, 0, 0, 0])
        self.assertEqual(last(light("R9 W500 G500"), see(0, 1), see(490, 1), look(11)), [491, 0, 1, 0, 1, 0])

    def test_two_k_that_differ_once_a_period(self):
        one = [light("W2 -8 W2 -8 W2 -8 R1"), see(0, 1), see(1, 1)]
        self.assertEqual(last(*one, fits(0)), [3, 0, 20])
        self.assertEqual(last(*one, look(0)), [10, 0, 1, 1, 0, 0])
        self.assertEqual(last(*one, see(10, 1), look(0)), [20, 0, 1, 1, 0, 0])
        self.assertEqual(last(*one, see(10, 1), look(21)), [22, 1, 1, 0, 0, 0])

    def test_a_later_time_of_two_lights(self):
        two = [light("W5 -5"), light("W5 -6"), see(4, 1), see(5, 0)]
        self.assertEqual(ask(*two, fits(0), fits(1))[4:], [[1, 0, 0], [1, 0, 0]])
        self.assertEqual(last(*two, look(0)), [10, 1, 1, 0, 0, 0])
        self.assertEqual(last(*two, look(11)), [15, 1, 1, 0, 0, 0])

    def test_different_colours_other_than_dark(self):
        two = [light("W5 G5 -10"), light("W5 Y5 -10"), see(4, 1), see(10, 0)]
        self.assertEqual(last(*two, look(0)), [5, 0, 0, 0, 1, 1])
        self.assertEqual(last(*two, look(10)), [25, 0, 0, 0, 1, 1])

    def test_a_light_that_never_changes_beside_one_that_does(self):
        lights = [light("W1"), light("W600 W600 R600")]
        seen = [see(0, 1), see(600, 1), see(1199, 1)]
        for two in (lights, lights[::-1]):
            told = ask(*two, *seen, look(0), look(1200), look(1799), look(1800))[5:]
            self.assertEqual([found for found, *counts in told], [1200, 1200, 1799, 3000])
            self.assertEqual([counts for found, *counts in told], [[0, 1, 1, 0, 0]] * 4)

    def test_lights_that_are_not_possible_tell_nothing(self):
        two = [light("G1"), light("W5 -5"), light("R1 G1"), see(4, 1), see(5, 0)]
        self.assertEqual(last(*two, look(0)), [-3])
        self.assertEqual(last(*two, light("W5 -6"), look(0)), [10, 1, 1, 0, 0, 0])

    def test_a_light_counts_once_in_each_colour(self):
        lights = [light("W5 -5"), light("W5 -5"), light("W5"), light("W5 R5 -5")]
        self.assertEqual(last(*lights, see(0, 1), look(0)), [1, 2, 4, 1, 0, 0])

    def test_of_three_lights_two_alike(self):
        three = [light("W5 -5"), light("W5 -5 W5 -5"), light("W5 -5 W5 -5 W5 -5 W5 -5 W5 R5")]
        seen = [see(4, 1), see(5, 0), see(44, 1), see(45, 0)]
        self.assertEqual(last(*three, *seen, fits(2)), [3, 10, 30])
        self.assertEqual(last(*three, *seen, look(0)), [15, 3, 0, 1, 0, 0])

    def test_behind_a_forget(self):
        told = ask(light("W5 -5"), see(4, 1), see(5, 0), look(3), forget(), look(3))
        self.assertEqual(told[3::2], [[-3], [3, 1, 1, 0, 0, 0]])


class VeryLong(unittest.TestCase):
    """Two lights, each with one k left, that differ only after very long."""

    def follow(self, texts, seen, reds, others, times):
        calls = [light(text) for text in texts] + [see(time, colour) for time, colour in seen]
        self.assertEqual(ask(*calls, fits(0), fits(1))[-2:], [[1, 0, 0], [1, 0, 0]])
        for time in times:
            found = first_unlike(reds, others, time)
            for order in (calls, [calls[1], calls[0]] + calls[2:]):
                self.assertEqual(last(*order, look(time)), [found, 0, 1, 1, 0, 0], (texts, time))

    def test_periods_without_a_common_divisor(self):
        texts = [WHITE_3000 + " R1", WHITE_3000 + " R1 W1"]
        self.assertEqual([period_of(text) for text in texts], [3000, 3001])
        reds, others = flashes(2999, 3000, 1000), flashes(2999, 3001, 1000)
        self.assertEqual(first_unlike(reds, others, 0), 3000 + 3001 - 2)
        self.follow(texts, [(2999, 2)], reds, others, (0, 1, 2999, 3000, 5999, 6000, 6001, 6002, 123456, 1000000))

    def test_the_longest_periods(self):
        texts = [WHITE_5400 + " W598 R1", WHITE_5400 + " W598 R1 W1"]
        self.assertEqual([period_of(text) for text in texts], [5999, 6000])
        reds, others = flashes(5998, 5999, 1000), flashes(5998, 6000, 1000)
        self.assertEqual(first_unlike(reds, others, 0), 5999 + 6000 - 2)
        self.follow(texts, [(5998, 2)], reds, others, (0, 5997, 5998, 5999, 11997, 11998, 11999, 12000, 1000000))

    def test_the_answer_is_behind_the_last_time_that_may_be_handed_in(self):
        texts = [WHITE_5400 + " W598 R1", WHITE_5400 + " W598 R1 W1"]
        calls = [light(text) for text in texts] + [see(990000, 2)]
        told = last(*calls, look(1000000))
        reds, others = flashes(990000, 5999, 9), flashes(990000, 6000, 9)
        self.assertEqual(told, [first_unlike(reds, others, 1000000), 0, 1, 1, 0, 0])
        self.assertGreater(told[0], 1000000)
        told = ask(*[light(text) for text in texts], see(1000000, 2), look(0), look(1000000))
        self.assertEqual(told[-1], [1000000 + 5999, 0, 1, 1, 0, 0])
        self.assertEqual(last(light("W5 -5"), see(1000000, 1), look(1000000)), [1000001, 1, 1, 0, 0, 0])

    def test_a_short_period_and_a_long_one(self):
        texts = ["W1 R1", " ".join(["W1 R1"] * 15 + ["W1 W1"])]
        self.assertEqual([period_of(text) for text in texts], [2, 32])
        calls = [light(text) for text in texts] + [see(0, 1), see(1, 2), see(31, 1)]
        self.assertEqual(last(*calls, fits(0)), [0])
        calls = calls[:2] + [see(0, 1), see(1, 2)] + [see(time, 2) for time in range(3, 31, 2)]
        self.assertEqual(ask(*calls, fits(0), fits(1))[-2:], [[1, 0, 0], [1, 0, 0]])
        self.assertEqual(last(*calls, look(0)), [31, 0, 1, 1, 0, 0])
        self.assertEqual(last(*calls, look(32)), [63, 0, 1, 1, 0, 0])

    def test_rhythms_alike_for_almost_a_whole_period(self):
        texts = [WHITE_5400 + " -300 W100 G199 Y1", WHITE_5400 + " -300 W100 G199 R1"]
        calls = [light(text) for text in texts] + [see(5399, 1), see(5400, 0)]
        self.assertEqual(ask(*calls, fits(0), fits(1))[-2:], [[1, 0, 0], [1, 0, 0]])
        self.assertEqual(last(*calls, look(0)), [5999, 0, 0, 1, 0, 1])
        self.assertEqual(last(*calls, look(6000)), [11999, 0, 0, 1, 0, 1])
        self.assertEqual(last(*calls, look(1000000)), [1001999, 0, 0, 1, 0, 1])

    def test_two_k_of_one_light_alike_for_almost_a_whole_period(self):
        text = " ".join(["W300 -300"] * 9 + ["W300 -299 R1"])
        self.assertEqual(period_of(text), 6000)
        calls = [light(text), see(299, 1), see(300, 0)]
        self.assertEqual(last(*calls, fits(0)), [10, 0, 5400])
        # Red comes at 5999 - k, so what is dark there leaves that k out.
        calls += [see(5999 - k, 0) for k in range(1200, 6000, 600)]
        self.assertEqual(last(*calls, fits(0)), [2, 0, 600])
        self.assertEqual(last(*calls, look(0)), [5399, 1, 0, 1, 0, 0])
        self.assertEqual(last(*calls, look(5400)), [5999, 1, 0, 1, 0, 0])
        self.assertEqual(last(*calls, look(6000)), [11399, 1, 0, 1, 0, 0])
        self.assertEqual(last(*calls, see(5399, 0), look(0)), [-3])


class Never(unittest.TestCase):
    def never(self, *calls):
        for time in (0, 1, 7, 999999, 1000000):
            self.assertEqual(last(*calls, look(time)), [-3], time)

    def test_no_light(self):
        self.never()
        self.never(see(0, 1))

    def test_none_possible(self):
        self.never(light("W5 -5"), see(0, 2))
        self.never(light("W5 -5"), light("G5"), light("R5 Y5"), see(0, 2), see(1, 3))

    def test_one_light_with_one_k_left(self):
        self.never(light("W5 -5"), see(4, 1), see(5, 0))
        self.never(light("W1 -1"), see(0, 0))
        self.never(light(WHITE_5400 + " W599 R1"), see(123456, 2))
        self.never(light(" ".join(["W187 R187"] * 15 + ["W187 G203"])), see(5797, 3), see(5999, 3))

    def test_one_light_whose_colour_never_changes(self):
        for sign in "-WRGY":
            self.never(light(sign + "1"))
            self.never(light(f"{sign}600 {sign}3"))

    def test_two_lights_whose_colour_never_changes(self):
        self.never(light("W5"), light("W600 W1"), light("W1 W1 W1"))
        self.never(light("W5"), light("R5"), light("W6"), see(3, 1))

    def test_two_lights_of_the_same_rhythm_in_different_texts(self):
        self.never(light("W5 -5"), light("W2 W3 -5 W5 -1 -4"), see(4, 1), see(5, 0))
        self.never(light("W5 -5"), light("W5 -5"), light("W5 -5 W5 -5 W5 -5"), see(4, 1), see(5, 0))

    def test_two_lights_with_different_k_whose_colours_never_differ(self):
        calls = [light("W5 -5"), light("-5 W5"), light("-2 W5 -3"), see(4, 1), see(5, 0)]
        self.assertEqual(ask(*calls, fits(0), fits(1), fits(2))[5:], [[1, 0, 0], [1, 5, 5], [1, 2, 2]])
        self.never(*calls)

    def test_long_ones_begun_elsewhere(self):
        texts = [WHITE_5400 + " R600", "W600 R600 " + WHITE_5400[5:], "R600 " + WHITE_5400]
        self.never(*[light(text) for text in texts], see(5399, 1), see(5400, 2))


class Refused(unittest.TestCase):
    def test_times_above(self):
        for time in (1000001, 2000000, TOP - 1, TOP):
            self.assertEqual(last(light("W5 -5"), look(time)), [-1], time)

    def test_ahead_of_minus_3(self):
        for time in (1000001, TOP):
            self.assertEqual(ask(look(time)), [[-1]], time)
            self.assertEqual(last(light("W5"), look(time)), [-1], time)
            self.assertEqual(last(light("W5"), see(0, 0), look(time)), [-1], time)


class ByTheWords(unittest.TestCase):
    """Against the document's own words: all k, all lights, time by time."""

    def follow(self, texts, seen, times):
        pairs = possible_pairs(texts, seen)
        calls = [light(text) for text in texts] + sees(seen)
        answers = ask(*calls, *[look(time) for time in times])[len(calls):]
        for time, told in zip(times, answers):
            self.assertEqual(told, look_answer(texts, pairs, time), (texts, seen, time))
            if told != [-3]:
                self.assertFalse(any(tells(texts, pairs, other) for other in range(time, told[0])))
                self.assertTrue(tells(texts, pairs, told[0]))
                self.assertEqual(told[1:], counts_at(texts, pairs, told[0]))
                if told[0] <= 1000000:
                    self.assertEqual(last(*calls, expect(told[0])), [0] + told[1:])
        return [told[0] - time if told != [-3] else None for time, told in zip(times, answers)]

    def test_drawn_cases(self):
        dice = random.Random(6)
        waits = []
        for case in range(1500):
            texts, seen = drawn_case(dice)
            waits += self.follow(texts, seen, (dice.randrange(40), dice.randrange(1000001)))
        self.assertGreater(waits.count(None), 300)
        self.assertGreater(waits.count(0), 300)
        self.assertGreater(sum(wait is not None and wait > 0 for wait in waits), 200)

    def test_two_lights_that_begin_alike(self):
        """What was seen is all in which the two agree from time 0 on, so they differ late if at all."""
        dice = random.Random(60)
        beyond = 0
        for case in range(1500):
            first = " ".join(dice.choice("-W") + "1" for tenth in range(dice.randint(1, 8)))
            second = drawn_variant(dice, first)
            if dice.random() < 0.5:
                second = first + " " + " ".join(first.split(" ")[:dice.randint(1, 4)])
            seen = []
            while len(seen) < 25 and colour_at(first, len(seen)) == colour_at(second, len(seen)):
                seen.append((len(seen), colour_at(first, len(seen))))
            waits = self.follow([first, second], seen, (0, dice.randrange(30)))
            longest = max(period_of(first), period_of(second))
            beyond += waits[0] is not None and waits[0] >= longest
        self.assertGreater(beyond, 100)


if __name__ == "__main__":
    unittest.main()
