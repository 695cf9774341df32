import unittest

from helper import ask, fits, forget, last, light, see

TOP = 4294967295
HUNDRED = [see(time, 1) for time in range(0, 1000, 10)]


class Ordinary(unittest.TestCase):
    def test_it_tells_at_how_many_times_something_was_seen(self):
        told = ask(see(5, 0), see(3, 1), see(9, 2), see(4, 2))
        self.assertEqual(told, [[1], [2], [3], [4]])

    def test_it_needs_no_light(self):
        self.assertEqual(ask(see(0, 0)), [[1]])

    def test_times_at_the_edges(self):
        self.assertEqual(ask(see(0, 1), see(1, 1), see(999999, 1), see(1000000, 1)), [[1], [2], [3], [4]])

    def test_colours_at_the_edges(self):
        self.assertEqual(ask(*[see(colour, colour) for colour in range(5)]), [[1], [2], [3], [4], [5]])

    def test_the_same_told_again_changes_nothing(self):
        told = ask(light("W5 -5"), see(0, 1), see(0, 1), fits(0), see(2, 1), see(0, 1), see(2, 1), fits(0))
        self.assertEqual(told, [[0], [1], [1], [5, 0, 4], [2], [2], [2], [3, 0, 2]])

    def test_dark_at_time_0_counts_as_seen(self):
        self.assertEqual(ask(see(0, 0), see(0, 0), see(0, 1)), [[1], [1], [-3]])

    def test_100_times_and_the_101st(self):
        told = ask(*HUNDRED, see(5, 1), see(1000000, 0))
        self.assertEqual(told, [[count] for count in range(1, 101)] + [[-5], [-5]])

    def test_one_of_the_100_told_again(self):
        self.assertEqual(ask(*HUNDRED, see(0, 1), see(990, 1))[100:], [[100], [100]])

    def test_there_is_room_again_behind_forget(self):
        self.assertEqual(ask(*HUNDRED, see(5, 1), forget(), see(5, 1))[100:], [[-5], [0], [1]])


class Refused(unittest.TestCase):
    def test_times_above(self):
        for time in (1000001, 2000000, TOP - 1, TOP):
            self.assertEqual(ask(see(time, 1)), [[-1]], time)

    def test_colours_above(self):
        for colour in (5, 6, 87, 256, TOP):
            self.assertEqual(ask(see(3, colour)), [[-1]], colour)

    def test_both_above(self):
        self.assertEqual(ask(see(TOP, TOP)), [[-1]])

    def test_another_colour_at_the_same_time(self):
        for first in range(5):
            for second in range(5):
                told = ask(see(8, first), see(8, second))
                self.assertEqual(told, [[1], [1] if first == second else [-3]])

    def test_refusals_come_in_order(self):
        self.assertEqual(last(*HUNDRED, see(0, 5)), [-1])
        self.assertEqual(last(*HUNDRED, see(1000001, 1)), [-1])
        self.assertEqual(last(*HUNDRED, see(5, 5)), [-1])
        self.assertEqual(last(*HUNDRED, see(0, 2)), [-3])
        self.assertEqual(last(*HUNDRED, see(5, 2)), [-5])

    def test_a_refused_one_was_not_seen(self):
        told = ask(
            light("W5 -5"), see(0, 1), fits(0),
            see(0, 0), see(1000001, 0), see(TOP, 1), see(3, 5), fits(0),
            see(0, 1), see(3, 1), fits(0),
        )
        wanted = [[0], [1], [5, 0, 4], [-3], [-1], [-1], [-1], [5, 0, 4], [1], [2], [2, 0, 1]]
        self.assertEqual(told, wanted)

    def test_the_101st_was_not_seen(self):
        told = ask(light("W1 -9"), light("W1"), *HUNDRED, see(5, 0), fits(0), fits(1), see(5, 1))
        self.assertEqual(told[102:], [[-5], [1, 0, 0], [1, 0, 0], [-5]])


if __name__ == "__main__":
    unittest.main()
