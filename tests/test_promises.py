"""The promises that are over all the calls, for cases that are drawn here."""

import random
import unittest

from helper import (
    ask, colour_at, counts_at, drawn_case, drawn_text, drawn_variant, expect, fits, fits_answer, fitting, forget, last,
    light, lights_of, look, look_answer, period_of, possible_pairs, see, sees, sure, sure_answer, which,
)

TOP = 4294967295
ASKING = [fits(0), fits(1), fits(15), which(), expect(0), expect(7), expect(1000000), look(0), look(1000000), sure()]
REFUSED = [
    light("x" * 1025), light(""), light("W5 R601"), light("W1 " * 33), light(" ".join(["W600"] * 11)),
    see(1000001, 0), see(TOP, TOP), see(3, 5), fits(16), fits(TOP), expect(1000001), expect(TOP), look(1000001),
    look(TOP),
]


class MoreSeen(unittest.TestCase):
    def test_it_never_lets_one_come_back(self):
        dice = random.Random(1)
        lost = 0
        for case in range(300):
            texts, seen = drawn_case(dice)
            seen += [(time, dice.randrange(3)) for time in range(40, 44)]
            calls = [light(text) for text in texts] + [which()]
            for time, colour in seen:
                calls += [see(time, colour), which()]
            told = [set(answer[1:]) for answer in ask(*calls)[len(texts)::2]]
            for before, behind in zip(told, told[1:]):
                self.assertLessEqual(behind, before, (texts, seen))
                lost += behind < before
        self.assertGreater(lost, 200)

    def test_a_light_that_is_really_seen_stays_with_its_k(self):
        dice = random.Random(2)
        for case in range(300):
            texts = [drawn_text(dice)]
            texts += [drawn_variant(dice, texts[0]) for variant in range(dice.randrange(3))]
            number = dice.randrange(len(texts))
            k = dice.randrange(period_of(texts[number]))
            times = dice.sample(range(25), 8) + dice.sample(range(1000001), 2)
            seen = [(time, colour_at(texts[number], time + k)) for time in times]
            calls = [light(text) for text in texts]
            for time, colour in seen:
                calls += [see(time, colour), which(), fits(number), expect(time)]
            told = ask(*calls)[len(texts):]
            for count in range(1, len(seen) + 1):
                possible, fitted, expected = told[4 * count - 3:4 * count]
                ks = fitting(texts[number], seen[:count])
                self.assertIn(k, ks)
                self.assertIn(number, possible[1:])
                self.assertEqual(fitted, fits_answer(ks))
                self.assertEqual(expected, [
                    0, *[possible[0] if colour == seen[count - 1][1] else 0 for colour in range(5)],
                ])

    def test_100_times_seen_of_one_that_is_really_seen(self):
        text = "W7 -13 R1 -13 W7 -50 G3 -6"
        for k in range(period_of(text)):
            times = [time * 9973 % 1000001 for time in range(k, k + 100)]
            seen = [(time, colour_at(text, time + k)) for time in times]
            told = ask(light(text), light("W7 -93"), *sees(seen), which(), fits(0), sure())
            self.assertEqual(told[-3], [1, 0])
            self.assertEqual(told[-2], fits_answer(fitting(text, seen)))
            self.assertIn(k, fitting(text, seen))
            self.assertEqual(told[-1], sure_answer(possible_pairs([text], seen)))


class AllTogether(unittest.TestCase):
    def test_every_call_that_asks_by_the_words(self):
        dice = random.Random(3)
        for case in range(300):
            texts, seen = drawn_case(dice)
            pairs = possible_pairs(texts, seen)
            numbers = lights_of(pairs)
            time = dice.randrange(50)
            # Lights ahead of, among and behind what was seen, and what was forgotten first.
            calls = [light(text) for text in texts]
            steps = calls + [None] * len(seen)
            dice.shuffle(steps)
            left, shown = iter(calls), iter(sees(seen))
            mixed = [next(shown) if step is None else next(left) for step in steps]
            asked = [*[fits(number) for number in range(len(texts))], which(), expect(time), look(time), sure()]
            told = ask(see(5, 1), see(6, 3), forget(), *mixed, *asked)[-len(asked):]
            self.assertEqual(told, [
                *[fits_answer(fitting(text, seen)) for text in texts], [len(numbers)] + numbers,
                [0] + counts_at(texts, pairs, time), look_answer(texts, pairs, time), sure_answer(pairs),
            ], (texts, seen, time))


    def test_many_k_here_and_there(self):
        dice = random.Random(9)
        for case in range(300):
            signs = dice.choice(("-", "-R", "-RGY"))
            texts = [
                " ".join(f"W{dice.randint(1, 9)} {dice.choice(signs)}{dice.randint(1, 2)}" for flash in range(8))
                for number in range(dice.randint(1, 2))
            ]
            seen = [(time, 1) for time in dice.sample(range(100), dice.randint(0, 9))]
            pairs = possible_pairs(texts, seen)
            numbers = lights_of(pairs)
            times = dice.sample(range(120), 6) + [time for time, colour in seen[:3]]
            asked = [*[fits(number) for number in range(len(texts))], which(), sure()]
            asked += [expect(time) for time in times] + [look(time) for time in times]
            told = ask(*[light(text) for text in texts], *sees(seen), *asked)[-len(asked):]
            self.assertEqual(told, [
                *[fits_answer(fitting(text, seen)) for text in texts], [len(numbers)] + numbers, sure_answer(pairs),
                *[[0] + counts_at(texts, pairs, time) for time in times],
                *[look_answer(texts, pairs, time) for time in times],
            ], (texts, seen, times))


class ChangesNothing(unittest.TestCase):
    """What is refused and what only asks, put between other calls, changes no later answer."""

    def compare(self, doing, idle):
        plain = [ask(*doing[:count], *ASKING) for count in range(len(doing) + 1)]
        for count in range(len(doing) + 1):
            mixed = [call for step in doing[:count] for call in (*idle, step)] + idle
            told = ask(*mixed, *ASKING)
            self.assertEqual(told[-len(ASKING):], plain[count][-len(ASKING):], doing[:count])
            self.assertEqual(told[len(idle)::len(idle) + 1][:count], plain[count][:count])

    def test_drawn_cases(self):
        dice = random.Random(8)
        for case in range(30):
            texts, seen = drawn_case(dice)
            doing = [light(text) for text in texts] + sees(seen) + [forget(), see(0, 1), light("W5 -5"), see(9, 0)]
            self.compare(doing, dice.sample(ASKING + REFUSED, 6))

    def test_each_by_itself(self):
        doing = [light("W5 -5"), see(0, 1), light("R5 W5"), see(3, 1), forget(), see(9, 2), light("-5 R9"), see(8, 0)]
        for call in ASKING + REFUSED:
            self.compare(doing, [call])

    def test_another_colour_at_a_time_that_was_seen(self):
        doing = [see(0, 1), light("W5 -5"), light("W4 -5"), see(3, 1), see(4, 0)]
        plain = ask(*doing, *ASKING)[len(doing):]
        for other in (0, 2, 3, 4):
            told = ask(*doing[:2], see(0, other), *doing[2:], see(0, other), *ASKING)
            self.assertEqual([told[2], told[6]], [[-3], [-3]])
            self.assertEqual(told[7:], plain)

    def test_the_same_told_again(self):
        doing = [see(0, 1), light("W5 -5"), light("W4 -5"), see(3, 1), see(4, 0)]
        self.assertEqual(ask(*doing, see(0, 1), see(3, 1), *ASKING)[7:], ask(*doing, *ASKING)[5:])

    def test_a_17th_light_and_a_101st_time(self):
        lights = [light(f"W{length} -9") for length in range(1, 17)]
        seen = [see(time, colour_at("W5 -9", time)) for time in range(100)]
        for full in (lights, seen, lights + seen):
            told = ask(*full, light("W7"), see(100, 0), *ASKING)
            more = [call for call, answer in zip((light("W7"), see(100, 0)), told[len(full):]) if answer != [-5]]
            self.assertEqual(told[len(full) + 2:], ask(*full, *more, *ASKING)[len(full) + len(more):])
        told = ask(*lights, *seen, light("W7"), see(100, 0), which(), sure())
        self.assertEqual(told[116:], [[-5], [-5], [1, 4], [4, 1, 0]])

    def test_every_call_that_is_meant_to_be_refused_is(self):
        for call in REFUSED:
            self.assertLess(last(light("W5 -5"), light("W5"), call)[0], 0, call)


if __name__ == "__main__":
    unittest.main()
