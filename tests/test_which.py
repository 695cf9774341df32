import random
import unittest

from helper import ask, drawn_case, forget, last, light, lights_of, possible_pairs, see, sees, which


class Which(unittest.TestCase):
    def test_no_light(self):
        self.assertEqual(ask(which()), [[0]])
        self.assertEqual(last(see(0, 1), which()), [0])
        self.assertEqual(last(light("W0"), light(""), which()), [0])

    def test_nothing_seen_all_of_them_rising(self):
        self.assertEqual(last(light("W5"), which()), [1, 0])
        self.assertEqual(last(light("W5"), light("R5"), light("-5 G5"), which()), [3, 0, 1, 2])
        self.assertEqual(last(*[light("W5 -5")] * 16, which()), [16] + list(range(16)))

    def test_some_possible_and_some_not(self):
        lights = [light("R5 -5"), light("W5 -5"), light("G5"), light("W5"), light("-5 W5")]
        self.assertEqual(last(*lights, see(0, 1), which()), [3, 1, 3, 4])
        self.assertEqual(last(*lights, see(0, 1), see(5, 0), which()), [2, 1, 4])
        self.assertEqual(last(*lights, see(0, 2), which()), [1, 0])
        self.assertEqual(last(*lights, see(0, 0), which()), [3, 0, 1, 4])

    def test_none_possible(self):
        self.assertEqual(last(light("W5 -5"), see(0, 2), which()), [0])
        self.assertEqual(last(light("W5"), light("R5"), see(0, 1), see(1, 2), which()), [0])

    def test_possible_only_for_a_k_other_than_0(self):
        self.assertEqual(last(light("W5 -5"), see(0, 0), which()), [1, 0])
        self.assertEqual(last(light("W5 -5"), see(0, 0), see(1, 1), which()), [1, 0])
        self.assertEqual(last(light("G599 R1"), light("R5"), see(0, 2), see(1, 3), which()), [1, 0])
        self.assertEqual(last(light("G599 R1"), see(1000000, 2), which()), [1, 0])

    def test_behind_a_forget_all_are_there_again(self):
        told = ask(light("W5"), light("R5"), see(0, 1), which(), see(1, 2), which(), forget(), which())
        self.assertEqual(told[3::2], [[1, 0], [0], [2, 0, 1]])

    def test_a_light_that_comes_when_something_was_seen(self):
        told = ask(see(0, 1), see(9, 0), light("W5"), which(), light("W5 -5"), which(), light("W9 -1"), which())
        self.assertEqual(told[3::2], [[0], [1, 1], [2, 1, 2]])

    def test_by_the_words(self):
        dice = random.Random(4)
        for case in range(600):
            texts, seen = drawn_case(dice)
            numbers = lights_of(possible_pairs(texts, seen))
            told = last(*[light(text) for text in texts], *sees(seen), which())
            self.assertEqual(told, [len(numbers)] + numbers, (texts, seen))


if __name__ == "__main__":
    unittest.main()
