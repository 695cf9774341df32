import contextlib
import io
import unittest

from coastlights.watch import answers
from helper import ask, expect, fits, forget, joined, light, look, see, sure, which

MIXED_CALLS = [
    light("W5 -5"), light("W5 x"), light("x" * 1025), light("R3"), fits(0), see(0, 1), see(0, 2),
    see(4, 1), see(1000001, 1), fits(0), fits(1), fits(2), forget(), fits(0), fits(1),
    which(), expect(7), look(9), sure(), see(1, 1), which(), expect(1), look(0), look(1), sure(),
    expect(1000001), look(1000001), see(5, 1), sure(), look(2), light("W9"), which(), sure(), look(2),
    see(2, 3), which(), sure(), look(2),
]
MIXED = joined(MIXED_CALLS)
MIXED_ANSWERS = [
    1, 0, 2, -6, 1, 1, -2, 1, 1, 3, 10, 0, 9, 1, 1, 1, -3,
    1, 2, 1, -1, 3, 1, 0, 0, 1, 0, 1, -4, 1, 0, 3, 10, 0, 9, 3, 1, 0, 0,
    3, 2, 0, 1, 6, 0, 1, 1, 1, 0, 0, 6, 9, 1, 1, 1, 0, 0, 1, -3,
    1, 1, 2, 1, 0, 6, 0, 0, 1, 0, 0, 0, 6, 0, 1, 1, 0, 0, 0, 6, 2, 1, 1, 0, 0, 0, 2, 0, 5, 1, -1,
    1, -1, 1, 2, 3, 0, 1, 9, 1, -3, 1, 2, 3, 2, 0, 2, 1, -3, 6, 6, 1, 1, 0, 0, 0, 1, 3, 1, 0, 1, -3, 1, -3,
]


class Unchanging(list):
    """A list that tells of every try to change it, if only for a while."""

    def refuse(self, *given):
        raise AssertionError("what is handed in was changed")

    append = clear = extend = insert = pop = remove = reverse = sort = refuse
    __setitem__ = __delitem__ = __iadd__ = __imul__ = refuse


class Answers(unittest.TestCase):
    def test_each_call_by_itself(self):
        self.assertEqual(answers(light("W5")), [1, 0])
        self.assertEqual(answers(light("")), [2, -6, 0])
        self.assertEqual(answers(see(0, 0)), [1, 1])
        self.assertEqual(answers(forget()), [1, 0])
        self.assertEqual(answers(fits(0)), [1, -4])
        self.assertEqual(answers(which()), [1, 0])
        self.assertEqual(answers(expect(0)), [6, 0, 0, 0, 0, 0, 0])
        self.assertEqual(answers(look(0)), [1, -3])
        self.assertEqual(answers(sure()), [1, -3])

    def test_a_refusal_is_its_number_alone_but_of_lights_minus_6(self):
        told = ask(
            light("W5 -5"), light("x" * 1025), light("W5 x"), see(1000001, 0), see(0, 5), see(0, 1), see(0, 0), fits(1),
            expect(1000001), look(1000001), see(4, 1), look(0), light("W5 -5"), sure(),
        )
        self.assertEqual([answer for answer in told if answer[0] < 0], [
            [-2], [-6, 1], [-1], [-1], [-3], [-4], [-1], [-1], [-3], [-3],
        ])
        self.assertEqual(ask(*[light("W5")] * 17)[16], [-5])
        self.assertEqual(ask(*[see(time, 1) for time in range(101)])[100], [-5])

    def test_several_calls_one_behind_another(self):
        self.assertEqual(answers(list(MIXED)), MIXED_ANSWERS)

    def test_texts_whose_bytes_look_like_calls(self):
        told = answers(joined([light([0, 1, 2, 3]), light([3]), light([]), light("W5"), fits(0)]))
        self.assertEqual(told, [2, -6, 0, 2, -6, 0, 2, -6, 0, 1, 0, 3, 1, 0, 0])
        told = answers(joined([light([7, 6, 5, 4]), light([4]), light("W5"), which(), light([7]), sure()]))
        self.assertEqual(told, [2, -6, 0, 2, -6, 0, 1, 0, 2, 1, 0, 2, -6, 0, 3, 0, 1, 0])

    def test_400_calls(self):
        told = answers(light("W5 -5") + joined([see(0, 1), fits(0), forget()] * 133))
        # Not assertEqual: the difference of two lists as long as these takes it minutes to show.
        self.assertTrue(told == [1, 0] + [1, 1, 3, 5, 0, 4, 1, 0] * 133)

    def test_30000_numbers(self):
        told = answers(light("x" * 1100) * 27 + fits(0))
        self.assertEqual(told, [1, -2] * 27 + [1, -4])

    def test_what_is_handed_in_stays(self):
        handed = list(MIXED)
        answers(handed)
        self.assertEqual(handed, MIXED)

    def test_what_is_handed_in_is_not_changed_for_a_while_either(self):
        self.assertEqual(answers(Unchanging(MIXED)), MIXED_ANSWERS)

    def test_nothing_is_kept_from_one_time_to_the_next(self):
        handed = list(MIXED)
        first = answers(handed)
        self.assertEqual(answers(handed), first)
        self.assertEqual(answers(light("W5") + see(0, 0) + fits(0)), [1, 0, 1, 1, 1, 0])
        self.assertEqual(answers(fits(0)), [1, -4])
        self.assertEqual(answers(see(0, 1)), [1, 1])
        self.assertEqual(answers(which() + sure() + look(0)), [1, 0, 1, -3, 1, -3])
        self.assertEqual(answers(light("W5 -5") + look(3) + sure()), [1, 0, 6, 3, 1, 1, 0, 0, 0, 2, 0, 10])
        self.assertEqual(answers(handed), first)

    def test_what_is_given_back_is_a_new_list_each_time(self):
        handed = list(MIXED)
        first = answers(handed)
        first.clear()
        self.assertEqual(answers(handed), MIXED_ANSWERS)

    def test_it_gives_back_a_list_of_whole_numbers(self):
        told = answers(list(MIXED))
        self.assertIs(type(told), list)
        self.assertEqual({type(number) for number in told}, {int})

    def test_every_answer_stands_behind_its_length(self):
        self.assertEqual({call[0] for call in MIXED_CALLS}, set(range(8)))
        self.assertEqual(len(ask(*MIXED_CALLS)), len(MIXED_CALLS))

    def test_it_prints_nothing(self):
        out = io.StringIO()
        err = io.StringIO()
        with contextlib.redirect_stdout(out), contextlib.redirect_stderr(err):
            answers(list(MIXED))
        self.assertEqual(out.getvalue() + err.getvalue(), "")

    def test_what_only_asks_or_is_refused_changes_nothing(self):
        doing = [light("W5 -5"), see(0, 1), light("R5 W5"), see(3, 1), forget(), see(9, 2)]
        idle = [fits(0), fits(9), light("W0"), light("x" * 1025), see(1000001, 0), see(0, 9)]
        plain = ask(*[call for step in doing for call in (step, fits(0), fits(1))])
        mixed = ask(*[call for step in doing for call in (step, *idle, fits(0), fits(1))])
        kept = [told for place, told in enumerate(mixed) if not 1 <= place % (len(idle) + 3) <= len(idle)]
        self.assertEqual(kept, plain)


if __name__ == "__main__":
    unittest.main()
