import contextlib
import io
import unittest

from coastlights.watch import answers
from helper import ask, fits, forget, joined, light, see

MIXED = joined([
    light("W5 -5"), light("W5 x"), light("x" * 1025), light("R3"), fits(0), see(0, 1), see(0, 2),
    see(4, 1), see(1000001, 1), fits(0), fits(1), fits(2), forget(), fits(0), fits(1),
])
MIXED_ANSWERS = [
    1, 0, 2, -6, 1, 1, -2, 1, 1, 3, 10, 0, 9, 1, 1, 1, -3,
    1, 2, 1, -1, 3, 1, 0, 0, 1, 0, 1, -4, 1, 0, 3, 10, 0, 9, 3, 1, 0, 0,
]


class Unchanging(list):
    """A list that tells of every try to change it, if only for a while."""

    def refuse(self, *given):
        raise AssertionError("what is handed in was changed")

    append = clear = extend = insert = pop = remove = reverse = sort = refuse
    __setitem__ = __delitem__ = __iadd__ = __imul__ = refuse


class Answers(unittest.TestCase):
    def test_each_call_by_itself(self):
        self.assertEqual(answers(light("W5")), [1, 0])
        self.assertEqual(answers(light("")), [2, -6, 0])
        self.assertEqual(answers(see(0, 0)), [1, 1])
        self.assertEqual(answers(forget()), [1, 0])
        self.assertEqual(answers(fits(0)), [1, -4])

    def test_several_calls_one_behind_another(self):
        self.assertEqual(answers(list(MIXED)), MIXED_ANSWERS)

    def test_texts_whose_bytes_look_like_calls(self):
        told = answers(joined([light([0, 1, 2, 3]), light([3]), light([]), light("W5"), fits(0)]))
        self.assertEqual(told, [2, -6, 0, 2, -6, 0, 2, -6, 0, 1, 0, 3, 1, 0, 0])

    def test_400_calls(self):
        told = answers(light("W5 -5") + joined([see(0, 1), fits(0), forget()] * 133))
        # Not assertEqual: the difference of two lists as long as these takes it minutes to show.
        self.assertTrue(told == [1, 0] + [1, 1, 3, 5, 0, 4, 1, 0] * 133)

    def test_30000_numbers(self):
        told = answers(light("x" * 1100) * 27 + fits(0))
        self.assertEqual(told, [1, -2] * 27 + [1, -4])

    def test_what_is_handed_in_stays(self):
        handed = list(MIXED)
        answers(handed)
        self.assertEqual(handed, MIXED)

    def test_what_is_handed_in_is_not_changed_for_a_while_either(self):
        self.assertEqual(answers(Unchanging(MIXED)), MIXED_ANSWERS)

    def test_nothing_is_kept_from_one_time_to_the_next(self):
        handed = list(MIXED)
        first = answers(handed)
        self.assertEqual(answers(handed), first)
        self.assertEqual(answers(light("W5") + see(0, 0) + fits(0)), [1, 0, 1, 1, 1, 0])
        self.assertEqual(answers(fits(0)), [1, -4])
        self.assertEqual(answers(see(0, 1)), [1, 1])
        self.assertEqual(answers(handed), first)

    def test_what_is_given_back_is_a_new_list_each_time(self):
        handed = list(MIXED)
        first = answers(handed)
        first.clear()
        self.assertEqual(answers(handed), MIXED_ANSWERS)

    def test_it_gives_back_a_list_of_whole_numbers(self):
        told = answers(list(MIXED))
        self.assertIs(type(told), list)
        self.assertEqual({type(number) for number in told}, {int})

    def test_it_prints_nothing(self):
        out = io.StringIO()
        err = io.StringIO()
        with contextlib.redirect_stdout(out), contextlib.redirect_stderr(err):
            answers(list(MIXED))
        self.assertEqual(out.getvalue() + err.getvalue(), "")

    def test_what_only_asks_or_is_refused_changes_nothing(self):
        doing = [light("W5 -5"), see(0, 1), light("R5 W5"), see(3, 1), forget(), see(9, 2)]
        idle = [fits(0), fits(9), light("W0"), light("x" * 1025), see(1000001, 0), see(0, 9)]
        plain = ask(*[call for step in doing for call in (step, fits(0), fits(1))])
        mixed = ask(*[call for step in doing for call in (step, *idle, fits(0), fits(1))])
        kept = [told for place, told in enumerate(mixed) if not 1 <= place % (len(idle) + 3) <= len(idle)]
        self.assertEqual(kept, plain)


if __name__ == "__main__":
    unittest.main()
