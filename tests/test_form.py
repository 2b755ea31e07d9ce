"""The interface: the list of calls, the list of answers, nothing kept, nothing changed."""

import contextlib
import io
import unittest

from nodenames.holders import answers
from tests.asking import air, begin, claim, claims, dies, free, joined, keep, lose, lost, meet, names, part, take, tell
from tests.asking import turns, who

ALL_CALLS = joined([
    begin(4), claim(1, 2, 3), claim(2, 4, 3), tell(1, 2), take(1), free(1, 2, 3), dies(1, 2), part(3, 1),
    meet(3, 1), begin(9), claim(1, 0, 0), tell(3, 3), take(9), claim(4, 9, 9), claim(4, 1, 9), part(4, 1), tell(4, 1),
    air(), tell(4, 2), keep(2), lose(1), who(2, 9), names(2), lost(2, 4), claims(2), turns(2), air(), keep(9), lose(0),
    turns(501), who(5, 1), names(0), lost(1, 0), claims(5), names(3),
])


class NumberByNumber(unittest.TestCase):
    def check(self, calls, told):
        self.assertEqual(answers(calls), told)

    def test_begin(self):
        self.check([0, 3], [1, 0])

    def test_claim(self):
        self.check([1, 3, 9, 5], [1, 1])

    def test_claim_of_a_name_that_is_held(self):
        self.check([1, 3, 9, 5, 1, 3, 8, 5], [1, 1, 3, 0, 3, 9])

    def test_free(self):
        self.check([1, 2, 7, 0, 2, 2, 7, 0, 2, 2, 7, 0], [1, 1, 1, 1, 1, 0])

    def test_dies(self):
        self.check([1, 2, 7, 0, 1, 2, 7, 4, 3, 2, 7, 3, 2, 7], [1, 1, 1, 2, 1, 2, 1, 0])

    def test_part(self):
        self.check([4, 1, 2, 4, 1, 2], [1, 1, 1, 0])

    def test_meet(self):
        self.check([5, 1, 2, 4, 1, 2, 5, 1, 2], [1, 1, 1, 1, 1, 0])

    def test_tell(self):
        self.check([6, 1, 2, 1, 1, 1, 1, 6, 1, 2], [1, 0, 1, 1, 1, 1])

    def test_take(self):
        self.check([1, 1, 1, 1, 1, 2, 1, 1, 6, 1, 2, 7, 1], [1, 1, 1, 1, 1, 1, 2, 2, 1])

    def test_take_with_nothing_lost(self):
        self.check([6, 2, 3, 7, 1], [1, 0, 2, 3, 0])

    def test_keep(self):
        self.check([1, 1, 1, 1, 1, 2, 1, 1, 6, 1, 2, 8, 1, 8, 1], [1, 1, 1, 1, 1, 1, 2, 2, 1, 2, 2, 0])

    def test_lose(self):
        self.check([6, 2, 3, 9, 1], [1, 0, 1, 3])

    def test_turns(self):
        self.check([6, 2, 3, 6, 1, 2, 10, 500, 10, 1], [1, 0, 1, 0, 1, 2, 1, 0])

    def test_who(self):
        self.check([11, 3, 5, 1, 3, 9, 4, 1, 3, 9, 5, 11, 3, 5], [1, 0, 1, 1, 1, 2, 4, 1, 3, 9, 2])

    def test_names(self):
        self.check([12, 3, 1, 3, 9, 5, 1, 3, 8, 0, 12, 3], [1, 0, 1, 1, 1, 2, 7, 2, 0, 3, 8, 5, 3, 9])

    def test_lost(self):
        self.check([13, 2, 7, 1, 1, 1, 0, 1, 2, 7, 4, 1, 2, 7, 0, 6, 1, 2, 7, 1, 13, 2, 7],
                   [1, 0, 1, 1, 1, 1, 1, 2, 1, 1, 2, 2, 1, 3, 1, 0, 2])

    def test_claims(self):
        self.check([14, 2, 1, 2, 7, 4, 1, 2, 8, 5, 2, 2, 7, 4, 4, 2, 3, 14, 2],
                   [6, 0, 3, 1, 2, 3, 0, 1, 1, 1, 2, 1, 1, 1, 1, 15, 2, 2, 1, 2, 2, 4, 1, 2, 7, 1, 5, 2, 2, 8, 0])

    def test_air(self):
        self.check([15, 6, 1, 2, 1, 3, 1, 1, 5, 3, 1, 15], [1, 0, 1, 0, 1, 1, 1, 1, 9, 2, 1, 2, 0, 0, 3, 1, 1, 1])

    def test_refusals_stand_alone(self):
        self.check(
            [0, 5, 1, 0, 1, 1, 2, 0, 1, 1, 3, 0, 1, 4, 1, 1, 5, 1, 1, 6, 1, 1, 7, 0, 4, 1, 2, 6, 1, 2],
            [1, -1, 1, -1, 1, -1, 1, -1, 1, -1, 1, -1, 1, -1, 1, -5, 1, 1, 1, -4],
        )
        self.check(
            [8, 0, 9, 1, 10, 501, 11, 4, 1, 11, 1, 10, 12, 4, 13, 0, 1, 13, 1, 10, 14, 0],
            [1, -5, 1, -5, 1, -1, 1, -1, 1, -1, 1, -1, 1, -1, 1, -1, 1, -1],
        )

    def test_all_calls_in_one_list(self):
        self.check(ALL_CALLS, [
            1, 0, 1, 1, 1, 1, 1, 1, 2, 2, 1, 1, 1, 1, 0, 1, 1,
            1, 0, 1, -1, 1, -1, 1, -1, 1, -5, 1, 1, 3, 0, 4, 9, 1, 1, 1, -4,
            5, 1, 3, 1, 0, 0, 1, 1, 2, 2, 0, 1, 1, 4, 1, 4, 9, 1, 7, 2, 3, 1, 2, 9, 4, 9, 3, 1, 3, 1,
            22, 1, 4, 1, 2, 3, 4, 3, 3, 1, 1, 2, 0, 3, 1, 2, 4, 1, 9, 1, 4, 9, 0, 1, 1, 1, 0, 1, -5, 1, -5,
            1, -1, 1, -1, 1, -1, 1, -1, 1, -1, 1, 0,
        ])

    def test_hundred_calls_of_one_number(self):
        self.check([15] * 100, [1, 0] * 100)

    def test_hundred_calls_of_four_numbers(self):
        calls = joined([claim(1, 1, 1), free(1, 1, 1)] * 40 + [claim(2, 2, 2)] * 20)
        told = []
        for count in range(1, 41):
            told.extend([1, count, 1, 1])
        told.extend([1, 1])
        told.extend([3, 0, 2, 2] * 19)
        self.assertEqual(len(calls), 400)
        self.check(calls, told)


class NothingKept(unittest.TestCase):
    def test_what_is_handed_in_is_not_changed(self):
        calls = list(ALL_CALLS)
        answers(calls)
        self.assertEqual(calls, ALL_CALLS)

    def test_not_for_a_while_either(self):
        class Watched(list):
            def changed(self, *given):
                raise AssertionError("the list of calls was changed")

            __setitem__ = __delitem__ = __iadd__ = __imul__ = changed
            append = extend = insert = pop = remove = clear = reverse = sort = changed

        self.assertEqual(answers(Watched(ALL_CALLS)), answers(ALL_CALLS))

    def test_a_second_time_is_like_the_first(self):
        first = answers(ALL_CALLS)
        kept = list(first)
        first.append(7)
        self.assertEqual(answers(ALL_CALLS), kept)

    def test_another_list_between_leaves_nothing(self):
        first = answers([1, 1, 1, 1, 6, 1, 2, 4, 1, 2])
        answers([0, 2, 1, 1, 2, 1, 6, 1, 2, 4, 2, 1])
        self.assertEqual(answers([1, 1, 1, 1, 6, 1, 2, 4, 1, 2]), first)

    def test_the_answers_are_a_list_of_whole_numbers(self):
        told = answers(ALL_CALLS)
        self.assertIs(type(told), list)
        self.assertEqual({type(number) for number in told}, {int})

    def test_nothing_is_printed(self):
        out = io.StringIO()
        err = io.StringIO()
        with contextlib.redirect_stdout(out), contextlib.redirect_stderr(err):
            answers(ALL_CALLS)
        self.assertEqual((out.getvalue(), err.getvalue()), ("", ""))


if __name__ == "__main__":
    unittest.main()
