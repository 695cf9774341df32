import random
import unittest

from helper import ask, drawn_case, forget, last, light, possible_pairs, see, sees, sure, sure_answer, which


class Sure(unittest.TestCase):
    def test_none_possible(self):
        self.assertEqual(ask(sure()), [[-3]])
        self.assertEqual(last(see(0, 1), sure()), [-3])
        self.assertEqual(last(light("W5 -5"), see(0, 2), sure()), [-3])
        self.assertEqual(last(light("W5"), light("R5"), see(0, 3), sure()), [-3])

    def test_two_possible(self):
        self.assertEqual(last(light("W5"), light("R5"), sure()), [-3])
        self.assertEqual(last(light("W5 -5"), light("W4 -6"), see(0, 1), sure()), [-3])
        self.assertEqual(last(*[light("W5 -5")] * 16, sure()), [-3])

    def test_two_possible_of_the_same_rhythm(self):
        self.assertEqual(last(light("W5"), light("W5"), sure()), [-3])
        self.assertEqual(last(light("W5"), light("W600 W3"), see(0, 1), sure()), [-3])
        self.assertEqual(last(light("W5 -5"), light("W2 W3 -5 W5 -5"), see(4, 1), see(5, 0), sure()), [-3])
        self.assertEqual(last(light("W5 -5"), light("W5 -5"), see(4, 1), see(5, 0), sure()), [-3])

    def test_one_with_one_k(self):
        self.assertEqual(last(light("W5"), sure()), [0, 1, 0])
        self.assertEqual(last(light("W5 -5"), see(0, 1), see(4, 1), sure()), [0, 1, 0])
        self.assertEqual(last(light("W5 -5"), see(0, 0), see(1, 1), sure()), [0, 1, 9])
        self.assertEqual(last(light("R5 -5"), light("W5 -5"), see(0, 0), see(1, 1), sure()), [1, 1, 9])
        self.assertEqual(last(light("G599 R1"), light("G5"), see(1000000, 2), sure()), [0, 1, (599 - 1000000) % 600])

    def test_one_with_several_k(self):
        self.assertEqual(last(light("W5 -5"), sure()), [0, 10])
        self.assertEqual(last(light("W5 -5"), see(0, 1), sure()), [0, 5])
        self.assertEqual(last(light("R5 -5"), light("W5 -5"), see(0, 1), sure()), [1, 5])
        self.assertEqual(last(light("W5 -5"), light("R5"), see(3, 0), see(4, 0), sure()), [0, 4])

    def test_several_k_far_apart(self):
        self.assertEqual(last(light("W1 -5 W1 -6"), see(0, 1), sure()), [0, 2])
        self.assertEqual(last(light("G3"), light("W1 -5 W1 -6"), see(2, 1), sure()), [1, 2])

    def test_a_later_light(self):
        lights = [light("R5")] * 15 + [light("W5 -5")]
        self.assertEqual(last(*lights, see(7, 1), see(8, 0), sure()), [15, 1, 7])
        self.assertEqual(last(*lights, see(7, 1), sure()), [15, 5])
        self.assertEqual(last(light("R5"), light("W5"), light("G5"), see(0, 1), sure()), [1, 1, 0])

    def test_behind_a_forget_and_another_light(self):
        told = ask(
            light("W5"), sure(), light("R5"), sure(), see(0, 2), sure(), forget(), sure(), see(0, 1), sure(),
            light("W3"), sure(),
        )
        self.assertEqual(told[1::2], [[0, 1, 0], [-3], [1, 1, 0], [-3], [0, 1, 0], [-3]])

    def test_by_the_words_and_just_if_which_tells_this_one_alone(self):
        dice = random.Random(7)
        certain = 0
        for case in range(800):
            texts, seen = drawn_case(dice)
            told, one = ask(*[light(text) for text in texts], *sees(seen), which(), sure())[-2:]
            self.assertEqual(one, sure_answer(possible_pairs(texts, seen)), (texts, seen))
            self.assertEqual(one != [-3], told[0] == 1)
            if told[0] == 1:
                self.assertEqual(told[1], one[0])
                certain += 1
        self.assertGreater(certain, 100)
        self.assertLess(certain, 700)


if __name__ == "__main__":
    unittest.main()
