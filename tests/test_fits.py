import itertools
import unittest

from helper import ask, colour_at, fits, fits_answer, fitting, last, light, period_of, see

TOP = 4294967295

SMALL = [
    " ".join(phases)
    for count in (1, 2, 3, 4)
    for phases in itertools.product(("-1", "W1", "W2", "R1", "R3"), repeat=count)
]
LONG = (
    "W5 -5",
    "W3 -7 W3 -17",
    "R10 G20 Y30 -40",
    "W600 W600 W600 W600 W600 W600 W600 W600 W600 W599 R1",
    "-37 W1 -37 W1 -37 W2",
    "G7",
    "W4 R4 W4 R4 W4 R5",
)
TIMES = (0, 1, 2, 7, 30, 999, 65536, 999999, 1000000)


class NothingSeen(unittest.TestCase):
    def told(self, text, period):
        self.assertEqual(last(light(text), fits(0)), [period, 0, period - 1], text)

    def test_every_k_below_the_period(self):
        self.told("W5 -5", 10)
        self.told("W5 R6 G7 Y8 -9", 35)

    def test_a_rhythm_several_times_round(self):
        self.told("W5 -5 W5 -5", 10)
        self.told("W5 -5 W5 -5 W5 -5", 10)
        self.told("W1 R2 W1 R2 W1 R2 W1 R2", 3)
        self.told("W5 -5 W5 -6", 21)
        self.told("W600 R600 W600 R600 W600 R600 W600 R600 W600 R600", 1200)

    def test_several_times_round_with_the_phases_cut_otherwise(self):
        self.told("W2 W3 -5 W5 -1 -4", 10)
        self.told("W2 -5 W5 -5 W3", 10)

    def test_neighbours_of_one_colour(self):
        self.told("W2 W3 -5", 10)
        self.told("W2 W3 -1 -1 -3", 10)

    def test_the_same_colour_at_both_ends(self):
        self.told("W2 -5 W3", 10)
        self.told("-1 W1 -1", 3)

    def test_a_colour_that_never_changes(self):
        for sign in "-WRGY":
            self.told(sign + "1", 1)
            self.told(sign + "600", 1)
            self.told(f"{sign}3 {sign}5 {sign}1", 1)
        self.told(" ".join(["W600"] * 10), 1)


class Seen(unittest.TestCase):
    def told(self, text, seen, wanted):
        calls = [see(time, colour) for time, colour in seen]
        self.assertEqual(last(light(text), *calls, fits(0)), wanted, text)
        self.assertEqual(last(*calls, light(text), fits(0)), wanted, text)

    def test_one_k(self):
        self.told("W5 -5", [(0, 1), (4, 1)], [1, 0, 0])
        self.told("W5 -5", [(0, 0), (1, 1)], [1, 9, 9])
        self.told(LONG[3], [(0, 2)], [1, 5999, 5999])
        self.told(LONG[3], [(1000000, 2)], [1, 1999, 1999])

    def test_several_k(self):
        self.told("W5 -5", [(0, 1)], [5, 0, 4])
        self.told("W5 -5", [(1, 0)], [5, 4, 8])
        self.told("W5 -5", [(2, 1)], [5, 0, 9])
        self.told(LONG[3], [(0, 1)], [5999, 0, 5998])

    def test_none(self):
        self.told("W5 -5", [(0, 2)], [0])
        self.told("W5 -5", [(0, 1), (10, 0)], [0])
        self.told("W5", [(0, 0)], [0])

    def test_a_phase_is_on_from_its_first_tenth_to_the_one_ahead_of_the_next(self):
        self.told("W5 R1 G1", [(0, 2)], [1, 5, 5])
        self.told("W5 R1 G1", [(0, 3)], [1, 6, 6])
        self.told("W5 R1 G1", [(0, 1), (1, 1), (2, 1), (3, 1), (4, 1)], [1, 0, 0])

    def test_a_time_whole_rounds_later_tells_the_same(self):
        self.told("W5 -5", [(0, 1), (10, 1), (1000000, 1)], [5, 0, 4])
        self.told("W3 -4", [(1000000, 1)], [3, 0, 6])

    def test_a_colour_that_never_changes(self):
        self.told("Y600", [(0, 4), (77, 4), (1000000, 4)], [1, 0, 0])
        self.told("Y600", [(0, 4), (77, 4), (1000000, 3)], [0])

    def test_each_light_has_its_own(self):
        told = ask(light("W5 -5"), light("R5 -5"), see(0, 1), see(4, 1), fits(0), fits(1), fits(0))
        self.assertEqual(told[4:], [[1, 0, 0], [0], [1, 0, 0]])


class NoSuchLight(unittest.TestCase):
    def test_numbers_that_are_not_there(self):
        self.assertEqual(ask(fits(0), fits(TOP)), [[-4], [-4]])
        self.assertEqual(ask(light("W5"), fits(0), fits(1), fits(2), fits(TOP)), [[0], [1, 0, 0], [-4], [-4], [-4]])

    def test_it_changes_nothing(self):
        told = ask(fits(0), light("W5 -5"), see(0, 1), fits(0), fits(1), fits(0), see(0, 1))
        self.assertEqual(told, [[-4], [0], [1], [5, 0, 4], [-4], [5, 0, 4], [1]])


class ByTheWords(unittest.TestCase):
    """Against the document's own words, tried tenth by tenth."""

    def follow(self, text, times, k):
        seen = [(time, colour_at(text, time + k)) for time in times]
        calls = [light(text), fits(0)]
        for time, colour in seen:
            calls.extend([see(time, colour), fits(0)])
        told = ask(*calls)[1::2]
        for count, answer in enumerate(told):
            ks = fitting(text, seen[:count])
            self.assertIn(k % period_of(text), ks)
            self.assertEqual(answer, fits_answer(ks), (text, seen[:count]))

    def test_a_light_that_is_really_seen_stays(self):
        for text in SMALL:
            self.follow(text, (3, 0, 1, 10), 2)

    def test_at_whatever_k(self):
        for text in LONG[:3] + LONG[5:]:
            for k in range(period_of(text)):
                self.follow(text, TIMES[k % 3::3], k)

    def test_long_rhythms(self):
        for k in (0, 1, 5998, 5999):
            told = last(light(LONG[3]), *[see(time, colour_at(LONG[3], time + k)) for time in TIMES], fits(0))
            seen = [time % 6000 for time in TIMES]
            red = [(5999 - time) % 6000 for time in seen]
            ks = [k] if k in red else [other for other in range(6000) if other not in red]
            self.assertEqual(told, fits_answer(ks), k)

    def test_what_is_not_that_light(self):
        for text in SMALL[::3]:
            for colours in ((1, 1, 2), (0, 1, 0), (2, 0, 2), (3, 1, 1)):
                seen = list(zip((4, 1, 6), colours))
                told = last(light(text), *[see(time, colour) for time, colour in seen], fits(0))
                self.assertEqual(told, fits_answer(fitting(text, seen)), (text, seen))

    def test_more_seen_never_adds_a_k(self):
        for text in LONG:
            calls = [light(text), fits(0)]
            for step in range(60):
                calls.extend([see(step * 37 % 101, 1 if step % 7 else 0), fits(0)])
            told = ask(*calls)[1::2]
            for before, behind in zip(told, told[1:]):
                self.assertLessEqual(behind[0], before[0])
                if behind[0]:
                    self.assertLessEqual(before[1], behind[1])
                    self.assertGreaterEqual(before[2], behind[2])

    def test_the_order_of_what_was_seen_is_all_one(self):
        seen = [see(0, 1), see(7, 0), see(20, 1)]
        wanted = last(light(LONG[1]), *seen, fits(0))
        self.assertGreater(wanted[0], 0)
        for order in itertools.permutations(seen):
            self.assertEqual(last(light(LONG[1]), *order, fits(0)), wanted)


if __name__ == "__main__":
    unittest.main()
