"""Points 1 and 2: what is refused, which refusal is told first, and that all is as it was behind it."""

import unittest

from tests.asking import MOST, air, ask, begin, claim, claims, dies, forty_claims, free, keep, last, lose, lost, meet
from tests.asking import names, part, take, tell, turns, who

# A world in which each part of it shows in what SHOW is answered.
SETTING = [
    begin(3), claim(1, 1, 1), claim(2, 9, 9), claim(2, 1, 1), tell(1, 2), claim(1, 1, 2), tell(2, 3), part(1, 2),
    part(3, 2), claim(3, 6, 2), claim(3, 6, 1), tell(1, 3), take(3),
]
SHOW = [
    air(), claims(1), claims(2), claims(3), names(1), names(2), names(3), lost(1, 1), lost(2, 1), lost(2, 9),
    lost(3, 6), who(1, 1), who(2, 1), who(3, 1),
    claim(1, 9, 9), claim(2, 9, 1), claim(3, 5, 1), part(1, 2), part(1, 3), part(2, 1), part(2, 3), part(3, 1),
    part(3, 2), take(2), take(1), take(1), claim(1, 3, 3), claim(2, 3, 3), claim(3, 3, 3), dies(1, 1), dies(2, 9),
    dies(2, 1), meet(1, 2), take(1), meet(2, 3), take(1), meet(3, 1), take(1), tell(1, 2), tell(2, 3), tell(3, 1),
    claim(4, 1, 1), lost(1, 1), lost(2, 1), lost(2, 9), lost(3, 6), air(), claims(1), claims(2), claims(3),
]

NO_NODE = [0, 4, 5, MOST]
NO_PROCESS = [0, 10, 11, MOST]
NO_NAME = [10, 11, MOST]


class Refused(unittest.TestCase):
    def check(self, call, refusal):
        with self.subTest(call=call):
            told = ask(*SETTING, call, *SHOW)
            self.assertEqual(told[len(SETTING)], [refusal])
            self.assertEqual(told[len(SETTING) + 1:], ask(*SETTING, *SHOW)[len(SETTING):])

    def test_how_many_nodes(self):
        for n in (0, 1, 5, 6, MOST):
            self.check(begin(n), -1)

    def test_a_node_that_there_is_not(self):
        for n in NO_NODE:
            for call in (claim(n, 1, 1), free(n, 1, 1), dies(n, 1), part(n, 1), part(1, n), meet(n, 1), meet(1, n),
                         tell(n, 1), tell(1, n), part(n, n), meet(n, n), tell(n, n), who(n, 1), names(n), lost(n, 1),
                         claims(n)):
                self.check(call, -1)

    def test_a_process_that_there_is_not(self):
        for p in NO_PROCESS:
            for call in (claim(3, p, 8), claim(1, p, 1), free(1, p, 1), dies(1, p), lost(1, p)):
                self.check(call, -1)

    def test_a_name_that_there_is_not(self):
        for name in NO_NAME:
            for call in (claim(1, 1, name), free(1, 1, name), who(1, name)):
                self.check(call, -1)

    def test_both_nodes_the_same(self):
        for n in (1, 2, 3):
            for call in (part(n, n), meet(n, n), tell(n, n)):
                self.check(call, -1)

    def test_all_numbers_as_great_as_may_be(self):
        for call in (begin(MOST), claim(MOST, MOST, MOST), free(MOST, MOST, MOST), dies(MOST, MOST),
                     part(MOST, MOST), meet(MOST, MOST), tell(MOST, MOST), turns(MOST), who(MOST, MOST), names(MOST),
                     lost(MOST, MOST), claims(MOST)):
            self.check(call, -1)
        for call in (take(MOST), keep(MOST), lose(MOST)):
            self.check(call, -5)

    def test_a_node_that_is_not_reached(self):
        self.check(tell(1, 2), -4)
        self.check(tell(3, 2), -4)

    def test_a_letter_that_there_is_not(self):
        for k in (0, 3, 4, MOST):
            for call in (take(k), keep(k), lose(k)):
                self.check(call, -5)

    def test_more_turns_than_may_be(self):
        for n in (501, 502, MOST):
            self.check(turns(n), -1)


class ChangesNothing(unittest.TestCase):
    def test_questions_and_no_turns(self):
        unchanged = ask(*SETTING, *SHOW)[len(SETTING):]
        for n in (1, 2, 3):
            for call in (*[who(n, name) for name in range(10)], *[lost(n, p) for p in range(1, 10)], names(n),
                         claims(n), air(), turns(0)):
                with self.subTest(call=call):
                    told = ask(*SETTING, call, call, *SHOW)[len(SETTING):]
                    self.assertGreaterEqual(told[0][0], 0)
                    self.assertEqual(told[0], told[1])
                    self.assertEqual(told[2:], unchanged)


class NotRefused(unittest.TestCase):
    def test_first_and_last_process(self):
        told = ask(claim(1, 1, 1), claim(1, 9, 2), free(1, 1, 1), free(1, 9, 2), dies(1, 1), dies(1, 9), lost(1, 1),
                   lost(1, 9))
        self.assertEqual(told, [[1], [2], [1], [1], [0], [0], [0], [0]])

    def test_first_and_last_name(self):
        told = ask(claim(1, 1, 0), claim(1, 1, 9), who(1, 0), who(1, 9), free(1, 1, 0), free(1, 1, 9))
        self.assertEqual(told, [[1], [2], [1, 1, 1, 1], [1, 1, 1, 2], [1], [1]])

    def test_first_and_last_node(self):
        for n in (2, 3, 4):
            with self.subTest(n=n):
                told = ask(begin(n), claim(n, 1, 1), free(n, 1, 1), dies(n, 1), tell(1, n), tell(n, 1), meet(n, 1),
                           meet(1, n), part(n, 1), part(1, n), who(n, 1), names(n), lost(n, 1), claims(n))
                self.assertEqual(told[:-1], [[0], [1], [1], [0], [0], [1], [1], [1], [1], [1], [0], [0], [0]])
                self.assertEqual(told[-1], [1, n - 1, *range(2, n + 1), 1, 1, 1, n, 1, 1])

    def test_first_and_last_letter(self):
        self.assertEqual(ask(tell(1, 2), tell(1, 3), take(2), take(1))[2:], [[3, 0], [2, 0]])
        self.assertEqual(ask(tell(1, 2), tell(1, 3), keep(2), keep(1))[2:], [[3, 0], [2, 0]])
        self.assertEqual(ask(tell(1, 2), tell(1, 3), lose(2), lose(1))[2:], [[3], [2]])

    def test_no_turns_and_as_many_as_may_be(self):
        self.assertEqual(ask(tell(1, 2), turns(0), turns(500))[1:], [[0], [1]])


class AboveTheLastNode(unittest.TestCase):
    def test_every_call(self):
        for n in (2, 3, 4):
            for above in (n + 1, n + 2):
                for call in (claim(above, 1, 1), free(above, 1, 1), dies(above, 1), part(above, 1), part(1, above),
                             meet(above, 1), meet(1, above), tell(above, 1), tell(1, above), who(above, 1),
                             names(above), lost(above, 1), claims(above)):
                    with self.subTest(n=n, call=call):
                        self.assertEqual(ask(begin(n), call, take(1)), [[0], [-1], [-5]])


class ToldFirst(unittest.TestCase):
    def test_claim_of_what_there_is_not_where_forty_are_known(self):
        full = [*forty_claims(1), dies(1, 4)]
        for call in (claim(1, 0, 1), claim(1, 10, 1), claim(1, 1, 10), claim(0, 1, 1)):
            with self.subTest(call=call):
                self.assertEqual(last(*full, call), [-1])
        self.assertEqual(last(*full, claim(1, 1, 1)), [-6])

    def test_a_refused_claim_leaves_forty_known(self):
        told = ask(*forty_claims(1), dies(1, 4), claim(1, 1, 1), claim(1, 1, 1), dies(1, 1), tell(1, 2))
        self.assertEqual(told[-5:], [[10], [-6], [-6], [0], [40]])

    def test_tell_where_a_hundred_letters_are_on_their_way(self):
        told = ask(*[tell(1, 2)] * 100, tell(1, 2), take(101), take(100), tell(1, 2), tell(1, 2))
        self.assertEqual(told[99:], [[0], [-6], [-5], [2, 0], [0], [-6]])

    def test_tell_where_nodes_are_not_reached_and_a_hundred_letters_are_on_their_way(self):
        told = ask(*[tell(1, 2)] * 100, part(1, 2), tell(1, 2), tell(1, 1), tell(1, 4))
        self.assertEqual(told[100:], [[1], [-4], [-1], [-1]])

    def test_a_node_that_is_not_reached_gets_no_letter(self):
        self.assertEqual(ask(part(1, 2), tell(1, 2), take(1)), [[1], [-4], [-5]])


if __name__ == "__main__":
    unittest.main()
