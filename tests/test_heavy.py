"""The heaviest cases that the document allows."""

import unittest

from helper import (
    answers, ask, colour_at, counts_at, expect, fits, forget, joined, light, look, period_of, phases_of, possible_pairs,
    see, sees, sure, weight, which,
)

# 32 phases of 6,000 tenths together, no two neighbours alike and none alike in length.
LENGTHS = [100 + 5 * phase for phase in range(31)]
LENGTHS.append(6000 - sum(LENGTHS))
EDGES = [sum(LENGTHS[:phase]) for phase in range(32)]
LONG = " ".join("-WRGY"[phase * 2 % 5] + str(length) for phase, length in enumerate(LENGTHS))


def turned(text, by):
    """The same rhythm, begun at a later phase."""
    parts = text.split(" ")
    return " ".join(parts[by:] + parts[:by])


def longer(text, by):
    """Almost the same rhythm: its last phase lasts longer or shorter."""
    parts = text.split(" ")
    return " ".join(parts[:-1] + [parts[-1][0] + str(int(parts[-1][1:]) + by)])


def once_round(text):
    return [colour for colour, length in phases_of(text) for tenth in range(length)]


def first_unlike(texts, time):
    """The first time from this one on at which the lights, all begun at time 0, don't all show one colour."""
    rounds = [once_round(text) for text in texts]
    for later in range(time, time + 2 * 6000):
        if len({colours[later % len(colours)] for colours in rounds}) > 1:
            return later
    return None


class Heavy(unittest.TestCase):
    def allowed(self, calls):
        self.assertLessEqual(weight(calls), 1000000)
        self.assertLessEqual(len(calls), 400)
        self.assertLessEqual(len(joined(calls)), 30000)
        return ask(*calls)

    def test_the_texts_are_what_they_are_meant_to_be(self):
        self.assertEqual(sum(LENGTHS), 6000)
        self.assertLessEqual(max(LENGTHS), 600)
        self.assertEqual(period_of(LONG), 6000)

    def test_39_looks_of_16_lights_of_one_rhythm_that_never_tell(self):
        # Seen at each edge from both sides, so that one k is left.
        times = [edge + more for edge in EDGES for more in (0, 50, 99)] + [5999, 500000, 999999, 1000000]
        calls = [light(turned(LONG, by)) for by in range(16)] + sees([(time, colour_at(LONG, time)) for time in times])
        told = self.allowed(calls + [look(time * 25641) for time in range(39)])
        self.assertEqual(told[115], [100])
        self.assertEqual(told[116:], [[-3]] * 39)
        told = ask(*calls, *[fits(number) for number in range(16)], which(), sure())
        self.assertEqual({answer[0] for answer in told[116:132]}, {1})
        self.assertEqual(told[132:], [[16] + list(range(16)), [-3]])

    def test_39_looks_of_16_lights_of_almost_one_rhythm(self):
        texts = [longer(LONG, -by) for by in range(16)]
        self.assertEqual([len(once_round(text)) for text in texts], list(range(6000, 5984, -1)))
        times = [edge + more for edge in EDGES[1:] for more in (-1, 0, 99)]
        times += [0, 5900, 5910, 5920, 5930, 5940, 5950]
        self.assertEqual(len(set(times)), 100)
        calls = [light(text) for text in texts] + sees([(time, colour_at(LONG, time)) for time in times])
        self.assertEqual(ask(*calls, *[fits(number) for number in range(16)])[116:], [[1, 0, 0]] * 16)
        asked = [0, 5983, 5984, 5985, 6000] + [time * 29411 for time in range(1, 35)]
        told = self.allowed(calls + [look(time) for time in asked])[116:]
        pairs = [(number, 0) for number in range(16)]
        for time, answer in zip(asked, told):
            found = first_unlike(texts, time)
            self.assertEqual(answer, [found] + counts_at(texts, pairs, found))

    def test_39_looks_with_nothing_seen(self):
        calls = [light(turned(LONG, by)) for by in range(16)] + [look(time) for time in range(39)]
        self.assertEqual(self.allowed(calls)[16:], [[time] + [16] * 5 for time in range(39)])

    def test_looks_with_thousands_of_k_that_show_one_colour_for_long(self):
        text = " ".join(["W600"] * 9 + ["R600"])
        calls = [light(text)] * 16 + [see(time, 1) for time in range(0, 2000, 100)]
        calls += [see(2000, 1), fits(3)] + [look(0)] * 19 + [forget(), see(2000, 1), fits(3)] + [look(2000)] * 19
        told = self.allowed(calls)
        self.assertEqual([told[37], told[59]], [[3400, 0, 3399], [5400, 0, 5999]])
        self.assertEqual(told[38:57] + told[60:], [[2001, 0, 16, 16, 0, 0]] * 38)

    def test_thousands_of_k_here_and_there(self):
        lengths = [320 + 7 * flash * flash % 101 for flash in range(15)]
        lengths.append(6000 - 16 - sum(lengths))
        self.assertLessEqual(max(lengths), 600)
        text = " ".join(f"W{length} -1" for length in lengths)
        times = [time * 61 for time in range(99)] + [1000000]
        colours = once_round(text)
        ks = [k for k in range(6000) if all(colours[(time + k) % 6000] == 1 for time in times)]
        self.assertGreater(len(set(ks) - {k + 1 for k in ks}), 900)
        calls = [light(turned(text, 2 * by)) for by in range(16)] + sees([(time, 1) for time in times])
        told = self.allowed(calls + [expect(time) for time in range(282)] + [fits(0), look(0)])
        self.assertEqual(told[-2], [len(ks), ks[0], ks[-1]])
        dark = [time for time, answer in enumerate(told[116:398]) if answer[1] > 0]
        self.assertEqual(told[-1], [dark[0], 16, 16, 0, 0, 0])
        for time in range(282):
            shown = {colours[(time + k) % 6000] for k in ks}
            self.assertEqual(told[116 + time], [0] + [16 if colour in shown else 0 for colour in range(5)])

    def test_looks_between_sees(self):
        k = 4321
        calls = [light(turned(LONG, by)) for by in range(16)]
        for step in range(38):
            calls += [see(step * 157, colour_at(LONG, step * 157 + k)), look(step * 157)]
        seen = [(step * 157, colour_at(LONG, step * 157 + k)) for step in range(38)]
        told = self.allowed(calls + [which(), sure()])
        self.assertEqual(told[-2:], [[16] + list(range(16)), [-3]])
        # All sixteen are one rhythm, so that one of them tells what is left.
        for step in range(38):
            pairs = possible_pairs([LONG], seen[:step + 1])
            if len(pairs) == 1:
                self.assertEqual(told[17 + 2 * step], [-3])
                continue
            found, *counts = told[17 + 2 * step]
            self.assertEqual(counts, [16 * count for count in counts_at([LONG], pairs, found)])
            self.assertGreater(sum(count > 0 for count in counts), 1)
            for time in range(step * 157, found):
                self.assertEqual(len({colour_at(LONG, time + other) for number, other in pairs}), 1)

    def test_about_30000_numbers(self):
        calls = [light(turned(LONG, by % 32)) for by in range(180)]
        calls += [see(1000000 - time, 0) for time in range(25)] + [look(0)] * 37 + [expect(0), which(), sure()]
        self.assertGreater(len(joined(calls)), 28000)
        told = self.allowed(calls)
        self.assertEqual(told[:180], [[number] for number in range(16)] + [[-5]] * 164)
        self.assertEqual(told[205:242], [[0] + told[242][1:]] * 37)
        self.assertEqual(told[-2:], [[16] + list(range(16)), [-3]])

    def test_400_calls_that_ask_of_all(self):
        lights = [light(LONG)] * 16
        for call, wanted in ((expect(123456), [0] + [16] * 5), (which(), [16] + list(range(16))), (sure(), [-3])):
            told = self.allowed(lights + [call] * 384)
            self.assertTrue(told[16:] == [wanted] * 384)

    def test_400_calls_that_see_and_forget(self):
        calls = [light(LONG)] * 16 + [see(0, 0), fits(7), forget(), expect(0)] * 96
        told = self.allowed(calls)
        dark = [k for k in range(6000) if colour_at(LONG, k) == 0]
        wanted = [[1], [len(dark), dark[0], dark[-1]], [0], [0] + [16] * 5] * 96
        self.assertTrue(told[16:] == wanted)

    def test_the_same_again(self):
        handed = joined([light(turned(LONG, by)) for by in range(16)] + [see(0, 1), look(0), look(1000000), sure()])
        kept = list(handed)
        first = answers(handed)
        self.assertTrue(answers(handed) == first)
        self.assertTrue(handed == kept)


if __name__ == "__main__":
    unittest.main()
