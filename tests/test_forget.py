import unittest

from helper import ask, fits, forget, light, see


class Forget(unittest.TestCase):
    def test_behind_nothing(self):
        self.assertEqual(ask(forget(), forget()), [[0], [0]])

    def test_what_was_seen_is_gone(self):
        told = ask(light("W5 -5"), see(0, 1), see(3, 0), fits(0), forget(), fits(0), see(3, 1), see(0, 0), fits(0))
        self.assertEqual(told, [[0], [1], [2], [3, 2, 4], [0], [10, 0, 9], [1], [2], [3, 7, 9]])

    def test_behind_much_that_was_seen(self):
        seen = [see(time, time % 2) for time in range(100)]
        told = ask(light("W1 -1"), light("R5"), *seen, fits(0), fits(1), forget(), fits(0), fits(1), see(0, 2), fits(1))
        self.assertEqual(told[102:], [[1, 1, 1], [0], [0], [2, 0, 1], [1, 0, 0], [1], [1, 0, 0]])

    def test_a_light_that_was_out_is_possible_again(self):
        told = ask(light("W5 -5"), see(0, 2), fits(0), forget(), fits(0))
        self.assertEqual(told, [[0], [1], [0], [0], [10, 0, 9]])

    def test_lights_stay(self):
        told = ask(*[light("W5 -5")] * 15, see(0, 1), forget(), light("R5"), light("G5"), fits(14), fits(15), fits(16))
        self.assertEqual(told[15:], [[1], [0], [15], [-5], [10, 0, 9], [1, 0, 0], [-4]])

    def test_a_light_that_comes_behind_it_knows_nothing_seen(self):
        self.assertEqual(ask(see(0, 1), forget(), light("W5 -5"), fits(0)), [[1], [0], [0], [10, 0, 9]])


if __name__ == "__main__":
    unittest.main()
