import random
import unittest

from helper import ask, counts_at, drawn_case, expect, forget, last, light, possible_pairs, see, sees

TOP = 4294967295


class Expect(unittest.TestCase):
    def test_no_light(self):
        self.assertEqual(ask(expect(0), expect(1000000)), [[0, 0, 0, 0, 0, 0]] * 2)
        self.assertEqual(last(see(0, 1), expect(0)), [0, 0, 0, 0, 0, 0])

    def test_each_colour_has_its_place(self):
        for colour, sign in enumerate("-WRGY"):
            wanted = [0, 0, 0, 0, 0, 0]
            wanted[1 + colour] = 1
            self.assertEqual(last(light(sign + "7"), expect(3)), wanted)

    def test_a_light_counts_once_in_each_colour_and_not_once_for_each_k(self):
        self.assertEqual(last(light("W5 -5"), expect(0)), [0, 1, 1, 0, 0, 0])
        self.assertEqual(last(light("W5 -7 W3 -2 R1"), expect(77)), [0, 1, 1, 1, 0, 0])
        self.assertEqual(last(light("-9 W8 R7 G6 Y5"), expect(1)), [0, 1, 1, 1, 1, 1])

    def test_several_lights(self):
        lights = [light("W5 -5"), light("W5 R5"), light("W5"), light("W5")]
        self.assertEqual(last(*lights, expect(9)), [0, 1, 4, 1, 0, 0])
        self.assertEqual(last(*[light("W5 -5")] * 16, expect(9)), [0, 16, 16, 0, 0, 0])

    def test_only_the_k_that_fit_count(self):
        told = ask(light("W5 R3 G2"), see(0, 1), see(4, 1), expect(4), expect(5), expect(7), expect(8), expect(10))
        self.assertEqual(told[3:], [
            [0, 0, 1, 0, 0, 0], [0, 0, 0, 1, 0, 0], [0, 0, 0, 1, 0, 0], [0, 0, 0, 0, 1, 0], [0, 0, 1, 0, 0, 0],
        ])
        self.assertEqual(last(light("W5 R3 G2"), see(0, 1), expect(3)), [0, 0, 1, 1, 0, 0])
        self.assertEqual(last(light("W5 R3 G2"), see(0, 1), expect(4)), [0, 0, 1, 1, 1, 0])
        self.assertEqual(last(light("W5 R3 G2"), see(0, 1), expect(7)), [0, 0, 1, 1, 1, 0])

    def test_lights_that_are_not_possible_count_nowhere(self):
        lights = [light("R5 -5"), light("W5 -5"), light("G5"), light("Y9 W1")]
        self.assertEqual(last(*lights, see(0, 1), expect(1)), [0, 1, 1, 0, 0, 1])
        self.assertEqual(last(*lights, see(0, 1), see(1, 2), expect(5)), [0, 0, 0, 0, 0, 0])

    def test_at_a_time_that_was_seen_only_that_colour_is_left(self):
        lights = [light("W5 -5"), light("W5 R5 G5"), light("-5 W1"), light("G5")]
        self.assertEqual(last(*lights, see(20, 1), expect(20)), [0, 0, 3, 0, 0, 0])
        told = ask(*lights, see(20, 1), see(24, 1), expect(24), expect(20), expect(30))
        self.assertEqual(told[6:], [[0, 0, 2, 0, 0, 0], [0, 0, 2, 0, 0, 0], [0, 0, 1, 0, 1, 0]])

    def test_times_ahead_of_what_was_seen(self):
        self.assertEqual(last(light("W5 -5"), see(1000, 1), see(1004, 1), expect(0)), [0, 0, 1, 0, 0, 0])
        self.assertEqual(last(light("W5 -5"), see(1000, 1), see(1004, 1), expect(995)), [0, 1, 0, 0, 0, 0])

    def test_behind_a_forget_everything_may_be_shown_again(self):
        told = ask(light("W5 -5"), see(0, 1), expect(0), forget(), expect(0))
        self.assertEqual(told[2::2], [[0, 0, 1, 0, 0, 0], [0, 1, 1, 0, 0, 0]])

    def test_the_last_time_and_those_above(self):
        one = [light("W5 -5"), see(0, 1), see(4, 1)]
        self.assertEqual(last(*one, expect(1000000)), [0, 0, 1, 0, 0, 0])
        self.assertEqual(last(*one, expect(999999)), [0, 1, 0, 0, 0, 0])
        for time in (1000001, 2000000, TOP - 1, TOP):
            self.assertEqual(last(*one, expect(time)), [-1], time)
            self.assertEqual(ask(expect(time)), [[-1]], time)

    def test_by_the_words(self):
        dice = random.Random(5)
        for case in range(400):
            texts, seen = drawn_case(dice)
            pairs = possible_pairs(texts, seen)
            times = [0, 1000000] + dice.sample(range(40), 5) + dice.sample(range(1000001), 5)
            told = ask(*[light(text) for text in texts], *sees(seen), *[expect(time) for time in times])
            wanted = [[0] + counts_at(texts, pairs, time) for time in times]
            self.assertEqual(told[-len(times):], wanted, (texts, seen, times))


if __name__ == "__main__":
    unittest.main()
