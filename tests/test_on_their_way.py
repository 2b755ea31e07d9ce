"""keep, lose and turns: letters that arrive again, never, or one behind another."""

import unittest

from tests.asking import air, ask, begin, claim, claims, dies, free, keep, last, lose, lost, meet, part, take, tell
from tests.asking import turns, who

# Node 1's claim on name 3 is elder than node 2's; a letter from 1 to 2 is on its way.
ONE_LETTER = [claim(1, 1, 3), claim(2, 2, 3), tell(1, 2)]
# Letters 1 to 3, to nodes 2, 3 and 1, with 1, 2 and 0 claims.
THREE_LETTERS = [claim(1, 1, 3), tell(1, 2), claim(1, 4, 5), tell(1, 3), tell(2, 1)]


class Keep(unittest.TestCase):
    def test_to_whom_and_how_many_were_lost(self):
        self.assertEqual(last(*ONE_LETTER, keep(1)), [2, 1])

    def test_nothing_lost(self):
        self.assertEqual(ask(tell(3, 1), keep(1)), [[0], [1, 0]])

    def test_it_arrives(self):
        told = ask(*ONE_LETTER, keep(1), who(2, 3), claims(2), lost(2, 2))
        self.assertEqual(told[4:], [
            [1, 1, 1, 1], [1, 3, 1, 2, 3, 2, 3, 1, 1, 1, 0, 3, 1, 2, 2, 1], [1, 3, 1],
        ])

    def test_the_count_is_the_letters_if_that_is_more(self):
        told = ask(claim(1, 1, 3), claim(1, 1, 4), tell(1, 2), keep(1), claim(2, 1, 5), keep(1), claim(2, 1, 6))
        self.assertEqual(told[3:], [[2, 0], [3], [2, 0], [4]])

    def test_it_stays_where_it_stands(self):
        on_way = [3, 1, 2, 1, 1, 1, 3, 2, 2, 2, 1, 0, 0]
        for k in (1, 2, 3):
            with self.subTest(k=k):
                self.assertEqual(ask(*THREE_LETTERS, air(), keep(k), air())[5::2], [on_way, on_way])

    def test_which_one_arrives(self):
        told = ask(*THREE_LETTERS, keep(1), keep(2), keep(3), keep(2))
        self.assertEqual(told[5:], [[2, 0], [3, 0], [1, 0], [3, 0]])

    def test_it_may_be_taken_kept_or_lost_behind_it(self):
        told = ask(*ONE_LETTER, keep(1), keep(1), take(1), keep(1))
        self.assertEqual(told[3:], [[2, 1], [2, 0], [2, 0], [-5]])
        self.assertEqual(ask(*ONE_LETTER, keep(1), lose(1), keep(1))[3:], [[2, 1], [2], [-5]])
        self.assertEqual(ask(*ONE_LETTER, keep(1), turns(500), keep(1))[3:], [[2, 1], [1], [-5]])

    def test_it_has_what_was_known_when_it_was_sent(self):
        told = ask(claim(1, 1, 3), tell(1, 2), free(1, 1, 3), claim(1, 1, 4), keep(1), claims(2), keep(1), claims(2))
        self.assertEqual(told[4:], [
            [2, 0], [1, 3, 1, 2, 3, 1, 3, 1, 1, 1, 0], [2, 0], [1, 3, 1, 2, 3, 1, 3, 1, 1, 1, 0],
        ])

    def test_the_receivers_learning_does_not_change_it(self):
        told = ask(*ONE_LETTER, tell(3, 2), claim(2, 1, 7), keep(1), air(), keep(1), air())
        self.assertEqual(told[5:], [[2, 1], [2, 1, 2, 1, 1, 3, 2, 0, 0], [2, 0], [2, 1, 2, 1, 1, 3, 2, 0, 0]])

    def test_where_neither_reaches_the_other(self):
        told = ask(claim(1, 1, 3), tell(1, 2), part(1, 2), part(2, 1), keep(1), claims(2))
        self.assertEqual(told[4:], [[2, 0], [1, 2, 2, 3, 1, 3, 1, 1, 1, 0]])


class ArrivingTwice(unittest.TestCase):
    def test_it_takes_nothing_twice(self):
        told = ask(*ONE_LETTER, keep(1), lost(2, 2), keep(1), take(1), lost(2, 2))
        self.assertEqual(told[3:], [[2, 1], [1, 3, 1], [2, 0], [2, 0], [1, 3, 1]])

    def test_no_claim_is_known_twice(self):
        told = ask(*ONE_LETTER, keep(1), claims(2), keep(1), claims(2))
        self.assertEqual(told[4], told[6])

    def test_what_was_given_up_between_stays_so(self):
        told = ask(claim(1, 1, 3), tell(1, 2), keep(1), free(1, 1, 3), tell(1, 2), take(2), who(2, 3), keep(1),
                   who(2, 3), claims(2))
        self.assertEqual(told[5:], [[2, 0], [0], [2, 0], [0], [1, 3, 1, 2, 3, 1, 3, 1, 1, 1, 1]])

    def test_the_senders_own_old_claim_comes_home_twice(self):
        told = ask(claim(1, 1, 3), tell(1, 2), take(1), tell(2, 1), dies(1, 1), keep(1), keep(1), who(1, 3), dies(1, 1))
        self.assertEqual(told[4:], [[1], [1, 0], [1, 0], [0], [0]])

    def test_a_later_claim_is_not_lost_to_what_is_known_given_up(self):
        told = ask(*ONE_LETTER, keep(1), free(1, 1, 3), tell(1, 2), take(2), claim(2, 2, 3), keep(1), who(2, 3))
        self.assertEqual(told[6:], [[2, 0], [2], [2, 0], [1, 2, 2, 2]])

    def test_a_later_claim_is_lost_where_the_elder_is_met_again(self):
        told = ask(*ONE_LETTER, keep(1), part(2, 1), claim(2, 2, 3), keep(1), meet(2, 1), lost(2, 2), keep(1))
        self.assertEqual(told[5:], [[2], [2, 0], [0], [2, 3, 1, 3, 2], [2, 0]])


class Lose(unittest.TestCase):
    def test_to_whom(self):
        for k, receiver in ((1, 2), (2, 3), (3, 1)):
            with self.subTest(k=k):
                self.assertEqual(last(*THREE_LETTERS, lose(k)), [receiver])

    def test_nothing_arrives(self):
        told = ask(*ONE_LETTER, lose(1), who(2, 3), claims(2), lost(2, 2), claims(1))
        self.assertEqual(told[3:], [
            [2], [1, 2, 2, 1], [1, 3, 1, 2, 3, 1, 3, 1, 2, 2, 0], [0], [1, 3, 1, 2, 3, 1, 3, 1, 1, 1, 0],
        ])

    def test_the_count_stays(self):
        self.assertEqual(last(claim(1, 1, 3), claim(1, 1, 4), tell(1, 2), lose(1), claim(2, 1, 5)), [1])

    def test_it_is_not_on_its_way_any_more(self):
        self.assertEqual(ask(*ONE_LETTER, lose(1), air(), lose(1), take(1))[3:], [[2], [0], [-5], [-5]])

    def test_the_others_stay_in_their_order(self):
        told = ask(*THREE_LETTERS, lose(2), air(), lose(2), air(), lose(1), air())
        self.assertEqual(told[5:], [[3], [2, 1, 2, 1, 1, 2, 1, 0, 0], [1], [1, 1, 2, 1, 1], [2], [0]])

    def test_it_leaves_room_for_another(self):
        told = ask(*[tell(1, 2)] * 100, tell(1, 2), lose(50), tell(1, 2), tell(1, 2))
        self.assertEqual(told[100:], [[-6], [2], [0], [-6]])


class Turns(unittest.TestCase):
    def test_none_are_asked_for(self):
        told = ask(*ONE_LETTER, turns(0), air(), lost(2, 2))
        self.assertEqual(told[3:], [[0], [1, 1, 2, 1, 1], [0]])

    def test_there_are_none(self):
        self.assertEqual(ask(turns(0), turns(1), turns(500)), [[0], [0], [0]])

    def test_the_first_arrive(self):
        told = ask(*THREE_LETTERS, turns(1), air(), claims(2), claims(3))
        self.assertEqual(told[5:], [
            [1], [2, 1, 3, 2, 2, 2, 1, 0, 0], [1, 3, 1, 2, 3, 1, 3, 1, 1, 1, 0], [0, 3, 1, 2, 3, 0],
        ])
        told = ask(*THREE_LETTERS, turns(2), air(), claims(3))
        self.assertEqual(told[5:], [[2], [1, 2, 1, 0, 0], [2, 3, 1, 2, 3, 2, 3, 1, 1, 1, 0, 5, 2, 1, 4, 0]])

    def test_it_stops_where_none_is_left(self):
        for n in (3, 4, 499, 500):
            with self.subTest(n=n):
                self.assertEqual(ask(*THREE_LETTERS, turns(n), air(), turns(n))[5:], [[3], [0], [0]])

    def test_one_behind_another(self):
        told = ask(*THREE_LETTERS, turns(1), turns(1), air(), turns(5))
        self.assertEqual(told[5:], [[1], [1], [1, 2, 1, 0, 0], [1]])

    def test_losses_stand_in_the_order_of_the_letters(self):
        setting = [claim(1, 1, 5), claim(2, 1, 6), claim(3, 9, 6), claim(3, 9, 5), meet(1, 3), tell(2, 3)]
        self.assertEqual(ask(*setting, turns(2), lost(3, 9))[6:], [[2], [2, 5, 2, 6, 1]])
        self.assertEqual(ask(*setting, take(2), turns(2), lost(3, 9))[6:], [[3, 1], [1], [2, 6, 1, 5, 2]])

    def test_as_many_as_may_be_on_their_way(self):
        told = ask(*[tell(1, 2)] * 50, *[tell(2, 3)] * 47, turns(96), air(), turns(500))
        self.assertEqual(told[97:], [[96], [1, 2, 3, 0, 0], [1]])

    def test_as_take_of_the_first_so_many_times(self):
        shown = [air(), claims(1), claims(2), claims(3), lost(2, 2)]
        setting = [*THREE_LETTERS, claim(2, 2, 3), tell(3, 2)]
        for n in (1, 2, 3, 4):
            with self.subTest(n=n):
                by_turns = ask(*setting, turns(n), *shown)[-5:]
                self.assertEqual(by_turns, ask(*setting, *[take(1)] * n, *shown)[-5:])

    def test_none_are_left_behind_begin(self):
        self.assertEqual(ask(*THREE_LETTERS, begin(3), turns(500), air())[-2:], [[0], [0]])


if __name__ == "__main__":
    unittest.main()
