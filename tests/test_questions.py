"""who, names, lost, claims and air."""

import unittest

from tests.asking import air, ask, begin, claim, claims, claims_in, dies, forty_claims, free, keep, last, lose, lost
from tests.asking import meet, names, part, take, tell, turns, who

FRESH = [0, 3, 1, 2, 3, 0]


class Who(unittest.TestCase):
    def test_none(self):
        self.assertEqual(ask(who(1, 0), who(3, 9)), [[0], [0]])

    def test_an_own_claim(self):
        told = ask(claim(2, 1, 5), claim(2, 7, 0), who(2, 0), who(2, 5))
        self.assertEqual(told[2:], [[1, 2, 7, 2], [1, 2, 1, 1]])

    def test_of_another_node(self):
        told = ask(claim(1, 1, 5), claim(1, 7, 9), tell(1, 3), take(1), who(3, 9), who(2, 9))
        self.assertEqual(told[-2:], [[1, 1, 7, 2], [0]])

    def test_not_another_name(self):
        self.assertEqual(ask(claim(1, 1, 5), who(1, 4), who(1, 6))[1:], [[0], [0]])

    def test_given_up(self):
        self.assertEqual(ask(claim(1, 1, 5), free(1, 1, 5), who(1, 5))[-1], [0])
        self.assertEqual(ask(claim(1, 1, 5), dies(1, 1), who(1, 5))[-1], [0])

    def test_given_up_as_far_as_the_node_knows(self):
        told = ask(claim(1, 1, 5), tell(1, 2), take(1), free(1, 1, 5), who(2, 5), tell(1, 2), take(1), who(2, 5))
        self.assertEqual(told[4::3], [[1, 1, 1, 1], [0]])

    def test_of_a_node_that_is_not_reached(self):
        told = ask(claim(1, 1, 5), tell(1, 2), take(1), part(2, 1), who(2, 5), meet(2, 1), who(2, 5))
        self.assertEqual(told[4::2], [[0], [1, 1, 1, 1]])

    def test_of_a_node_that_does_not_reach_back(self):
        self.assertEqual(last(claim(1, 1, 5), tell(1, 2), take(1), part(1, 2), who(2, 5)), [1, 1, 1, 1])

    def test_the_eldest_that_stands(self):
        three = [claim(1, 1, 5), claim(2, 2, 5), tell(2, 3), tell(1, 3), turns(2)]
        told = ask(*three, who(3, 5), part(3, 1), who(3, 5), part(3, 2), who(3, 5))
        self.assertEqual(told[5::2], [[1, 1, 1, 1], [1, 2, 2, 1], [0]])

    def test_the_lesser_count_before_the_lesser_node(self):
        told = ask(claim(1, 1, 4), claim(1, 1, 5), claim(2, 2, 5), tell(1, 3), tell(2, 3), turns(2), who(3, 5))
        self.assertEqual(told[-1], [1, 2, 2, 1])

    def test_each_as_its_node_sees_it(self):
        told = ask(claim(1, 1, 5), claim(2, 2, 5), who(1, 5), who(2, 5), who(3, 5))
        self.assertEqual(told[2:], [[1, 1, 1, 1], [1, 2, 2, 1], [0]])


class Names(unittest.TestCase):
    def test_none(self):
        self.assertEqual(ask(names(1), names(2), names(3)), [[0], [0], [0]])

    def test_the_least_name_first(self):
        told = ask(claim(2, 3, 9), claim(2, 1, 0), claim(2, 2, 4), names(2))
        self.assertEqual(told[-1], [3, 0, 2, 1, 4, 2, 2, 9, 2, 3])

    def test_one_name_first_to_last(self):
        for name in (0, 9):
            self.assertEqual(last(claim(1, 6, name), names(1)), [1, name, 1, 6])

    def test_ten_names(self):
        told = ask(*[claim(3, 5, name) for name in reversed(range(10))], names(3))[-1]
        self.assertEqual(told, [10] + [number for name in range(10) for number in (name, 3, 5)])

    def test_of_several_nodes(self):
        told = ask(claim(1, 1, 7), claim(2, 2, 3), claim(3, 3, 5), tell(2, 1), tell(3, 1), turns(2), names(1), names(2))
        self.assertEqual(told[-2:], [[3, 3, 2, 2, 5, 3, 3, 7, 1, 1], [1, 3, 2, 2]])

    def test_one_holder_for_each(self):
        told = ask(claim(1, 1, 7), claim(2, 2, 7), tell(1, 3), tell(2, 3), turns(2), names(3), part(3, 1), names(3))
        self.assertEqual(told[-3::2], [[1, 7, 1, 1], [1, 7, 2, 2]])

    def test_not_those_given_up(self):
        told = ask(claim(1, 1, 7), claim(1, 2, 8), free(1, 1, 7), names(1), dies(1, 2), names(1))
        self.assertEqual(told[3::2], [[1, 8, 1, 2], [0]])

    def test_not_those_of_nodes_that_are_not_reached(self):
        told = ask(claim(1, 1, 7), tell(1, 2), take(1), claim(2, 4, 1), part(2, 1), names(2))
        self.assertEqual(told[-1], [1, 1, 2, 4])


class Lost(unittest.TestCase):
    def test_none(self):
        self.assertEqual(ask(lost(1, 1), lost(3, 9)), [[0], [0]])

    def test_by_a_letter(self):
        told = ask(claim(1, 1, 3), claim(2, 8, 4), claim(2, 8, 3), lost(2, 8), tell(1, 2), take(1), lost(2, 8),
                   lost(1, 1))
        self.assertEqual(told[3::3], [[0], [1, 3, 2]])
        self.assertEqual(told[-1], [0])

    def test_by_meeting(self):
        told = ask(claim(1, 1, 3), claim(2, 8, 3), part(2, 1), tell(1, 2), take(1), lost(2, 8), meet(2, 1), lost(2, 8))
        self.assertEqual(told[5::2], [[0], [1, 3, 1]])

    def test_for_that_process_alone(self):
        told = ask(claim(1, 1, 3), claim(1, 1, 4), claim(2, 8, 3), claim(2, 9, 4), tell(1, 2), take(1),
                   lost(2, 8), lost(2, 9), lost(2, 1), lost(1, 8), lost(3, 8))
        self.assertEqual(told[6:], [[1, 3, 1], [1, 4, 2], [0], [0], [0]])

    def test_several_at_once_stand_by_age(self):
        told = ask(claim(1, 1, 0), claim(1, 1, 5), claim(1, 1, 9), claim(2, 8, 9), claim(2, 8, 5), claim(2, 8, 0),
                   tell(1, 2), take(1), lost(2, 8))
        # Of the claims on name 9 node 2's own is the elder.
        self.assertEqual(told[-2:], [[2, 2], [2, 5, 2, 0, 3]])

    def test_in_the_order_in_which_it_was_told(self):
        told = ask(begin(4), claim(1, 1, 5), claim(3, 1, 6), claim(4, 8, 6), claim(4, 8, 5), tell(1, 4), take(1),
                   tell(3, 4), take(1), lost(4, 8))
        self.assertEqual(told[-1], [2, 5, 2, 6, 1])

    def test_one_name_more_than_once(self):
        told = ask(claim(1, 1, 3), claim(2, 8, 3), tell(1, 2), keep(1), part(2, 1), claim(2, 8, 3), meet(2, 1),
                   part(2, 1), claim(2, 8, 3), claim(2, 8, 4), meet(2, 1), lost(2, 8), names(2))
        self.assertEqual(told[-2:], [[3, 3, 1, 3, 2, 3, 3], [2, 3, 1, 1, 4, 2, 8]])

    def test_not_what_the_process_freed_or_died_with(self):
        told = ask(claim(1, 1, 3), claim(2, 8, 3), claim(2, 8, 4), free(2, 8, 3), dies(2, 8), tell(1, 2), take(1),
                   lost(2, 8))
        self.assertEqual(told[-2:], [[2, 0], [0]])

    def test_it_is_still_told_where_the_process_died_or_the_name_is_free(self):
        told = ask(claim(1, 1, 3), claim(2, 8, 3), tell(1, 2), take(1), dies(2, 8), free(1, 1, 3), tell(1, 2), take(1),
                   claim(2, 8, 3), lost(2, 8))
        self.assertEqual(told[-2:], [[2], [1, 3, 1]])

    def test_a_claim_that_found_a_holder_lost_nothing(self):
        self.assertEqual(last(claim(1, 1, 3), claim(1, 2, 3), lost(1, 2)), [0])

    def test_none_behind_begin(self):
        self.assertEqual(last(claim(1, 1, 3), claim(2, 8, 3), tell(1, 2), take(1), begin(3), lost(2, 8)), [0])


class ClaimsAtTheBeginning(unittest.TestCase):
    def test_nothing_known(self):
        self.assertEqual(ask(claims(1), claims(2), claims(3)), [FRESH, FRESH, FRESH])

    def test_behind_begin(self):
        for n in (2, 3, 4):
            fresh = [0, n, *range(1, n + 1), 0]
            told = ask(claim(1, 1, 1), part(1, 2), meet(1, 2), begin(n), *[claims(node) for node in range(1, n + 1)])
            self.assertEqual(told[4:], [fresh] * n)


class ClaimsCount(unittest.TestCase):
    def count(self, *calls):
        return claims_in(last(*calls))[0]

    def test_one_more_by_each_claim(self):
        self.assertEqual(self.count(claim(1, 1, 1), claim(1, 2, 2), claims(1)), 2)

    def test_the_same_by_a_claim_that_is_held_or_refused(self):
        self.assertEqual(self.count(claim(1, 1, 1), claim(1, 2, 1), claim(1, 1, 10), claims(1)), 1)
        self.assertEqual(self.count(*forty_claims(1), dies(1, 4), claim(1, 1, 1), claims(1)), 40)

    def test_by_a_letter_that_has_more_or_less(self):
        more = [claim(1, 1, 1), claim(1, 1, 2), claim(2, 1, 3)]
        self.assertEqual(self.count(*more, tell(1, 2), take(1), claims(2)), 2)
        self.assertEqual(self.count(*more, tell(2, 1), take(1), claims(1)), 2)

    def test_not_by_giving_up(self):
        self.assertEqual(self.count(claim(1, 1, 1), free(1, 1, 1), dies(1, 1), claims(1)), 1)


class ClaimsReached(unittest.TestCase):
    def reached(self, *calls):
        return claims_in(last(*calls))[1]

    def test_one_that_was_parted_from_is_not_told(self):
        self.assertEqual(self.reached(part(2, 1), claims(2)), [2, 3])
        self.assertEqual(self.reached(part(2, 1), part(2, 3), claims(2)), [2])
        self.assertEqual(self.reached(part(1, 2), claims(2)), [1, 2, 3])

    def test_one_that_was_parted_from_and_met_again_stands_last(self):
        self.assertEqual(self.reached(part(2, 1), meet(2, 1), claims(2)), [2, 3, 1])
        told = self.reached(begin(4), part(4, 2), part(4, 1), meet(4, 1), meet(4, 2), claims(4))
        self.assertEqual(told, [3, 4, 1, 2])
        told = self.reached(begin(4), part(1, 2), meet(1, 2), part(1, 3), meet(1, 3), claims(1))
        self.assertEqual(told, [1, 4, 2, 3])

    def test_one_that_is_met_while_it_is_reached_stays_where_it_is(self):
        self.assertEqual(self.reached(meet(3, 1), claims(3)), [1, 2, 3])
        self.assertEqual(self.reached(part(3, 1), meet(3, 1), meet(3, 2), meet(3, 1), claims(3)), [2, 3, 1])

    def test_one_that_is_parted_from_twice(self):
        self.assertEqual(self.reached(part(1, 2), part(1, 2), meet(1, 2), claims(1)), [1, 3, 2])

    def test_a_meeting_is_one_sided(self):
        self.assertEqual(self.reached(part(1, 2), part(2, 1), meet(1, 2), claims(2)), [2, 3])
        self.assertEqual(self.reached(part(1, 2), part(2, 1), meet(1, 2), take(1), claims(2)), [2, 3])

    def test_letters_do_not_change_it(self):
        self.assertEqual(self.reached(tell(1, 2), part(2, 1), keep(1), take(1), claims(2)), [2, 3])


class ClaimsKnown(unittest.TestCase):
    def known(self, *calls):
        return claims_in(last(*calls))[2]

    def test_name_count_node_process_and_whether_given_up(self):
        self.assertEqual(last(claim(2, 7, 5), claims(2)), [1, 3, 1, 2, 3, 1, 5, 1, 2, 7, 0])
        self.assertEqual(last(claim(2, 7, 5), free(2, 7, 5), claims(2)), [1, 3, 1, 2, 3, 1, 5, 1, 2, 7, 1])

    def test_the_eldest_first(self):
        told = self.known(
            begin(4), claim(4, 1, 0), claim(4, 2, 9), claim(2, 3, 8), claim(2, 4, 1), claim(3, 9, 7),
            tell(4, 1), tell(3, 1), tell(2, 1), turns(3), claim(1, 5, 2), claims(1),
        )
        self.assertEqual(told, [
            (8, 1, 2, 3, 0), (7, 1, 3, 9, 0), (0, 1, 4, 1, 0), (1, 2, 2, 4, 0), (9, 2, 4, 2, 0), (2, 3, 1, 5, 0),
        ])

    def test_the_order_in_which_letters_came_does_not_matter(self):
        setting = [claim(3, 1, 1), claim(2, 2, 2), claim(3, 3, 3), tell(3, 1), tell(2, 1)]
        in_order = self.known(*setting, take(1), take(1), claims(1))
        self.assertEqual(in_order, [(2, 1, 2, 2, 0), (1, 1, 3, 1, 0), (3, 2, 3, 3, 0)])
        self.assertEqual(self.known(*setting, take(2), take(1), claims(1)), in_order)

    def test_with_those_given_up_where_they_stood(self):
        told = self.known(claim(1, 1, 1), claim(1, 1, 2), claim(1, 2, 3), free(1, 1, 2), dies(1, 2), claims(1))
        self.assertEqual(told, [(1, 1, 1, 1, 0), (2, 2, 1, 1, 1), (3, 3, 1, 2, 1)])

    def test_with_those_lost(self):
        told = ask(claim(1, 1, 3), claim(2, 2, 3), tell(1, 2), take(1), claims(2), claims(1))
        self.assertEqual(claims_in(told[4])[2], [(3, 1, 1, 1, 0), (3, 1, 2, 2, 1)])
        self.assertEqual(claims_in(told[5])[2], [(3, 1, 1, 1, 0)])

    def test_with_those_of_nodes_that_are_not_reached(self):
        told = self.known(claim(1, 1, 3), tell(1, 2), part(2, 1), take(1), claims(2))
        self.assertEqual(told, [(3, 1, 1, 1, 0)])

    def test_given_up_as_far_as_the_node_knows(self):
        told = ask(claim(1, 1, 3), tell(1, 2), free(1, 1, 3), take(1), claims(2), tell(1, 2), take(1), claims(2))
        self.assertEqual([claims_in(told[at])[2] for at in (4, 7)], [[(3, 1, 1, 1, 0)], [(3, 1, 1, 1, 1)]])

    def test_given_up_by_one_that_the_letter_does_not_come_from(self):
        told = self.known(claim(1, 1, 3), tell(1, 3), take(1), free(1, 1, 3), tell(1, 2), take(1), tell(2, 3), take(1),
                          claims(3))
        self.assertEqual(told, [(3, 1, 1, 1, 1)])

    def test_more_than_forty(self):
        told = self.known(claim(2, 1, 5), dies(2, 1), *forty_claims(1), tell(1, 2), take(1), claims(2))
        self.assertEqual(len(told), 41)
        self.assertEqual(told[:3], [(0, 1, 1, 1, 1), (5, 1, 2, 1, 1), (1, 2, 1, 1, 1)])


class Air(unittest.TestCase):
    def test_none(self):
        self.assertEqual(ask(air()), [[0]])
        self.assertEqual(last(tell(1, 2), take(1), air()), [0])

    def test_from_to_count_and_how_many_claims(self):
        self.assertEqual(last(claim(3, 1, 1), claim(3, 1, 2), tell(3, 1), air()), [1, 3, 1, 2, 2])

    def test_a_count_that_is_not_how_many_claims(self):
        told = last(claim(1, 1, 1), claim(2, 1, 2), tell(1, 2), take(1), tell(2, 3), air())
        self.assertEqual(told, [1, 2, 3, 1, 2])

    def test_with_those_given_up(self):
        self.assertEqual(last(claim(1, 1, 1), free(1, 1, 1), tell(1, 2), air()), [1, 1, 2, 1, 1])

    def test_by_meeting_too(self):
        self.assertEqual(last(claim(1, 1, 1), meet(1, 2), part(1, 3), meet(1, 3), air()), [2, 1, 2, 1, 1, 1, 3, 1, 1])

    def test_in_the_order_in_which_they_were_sent(self):
        told = last(tell(3, 2), claim(1, 1, 1), meet(1, 3), tell(2, 1), air())
        self.assertEqual(told, [3, 3, 2, 0, 0, 1, 3, 1, 1, 2, 1, 0, 0])

    def test_as_they_were_when_sent(self):
        told = last(claim(1, 1, 1), tell(1, 2), claim(1, 1, 2), claim(2, 1, 3), tell(2, 1), tell(1, 3), take(2), air())
        self.assertEqual(told, [2, 1, 2, 1, 1, 1, 3, 2, 2])

    def test_behind_a_take_or_lose_from_the_middle(self):
        sent = [tell(1, 2), claim(1, 1, 1), tell(1, 3), claim(1, 1, 2), tell(1, 2), tell(2, 3)]
        for away in (take(2), lose(2)):
            told = ask(*sent, away, air(), tell(3, 1), air())
            left = [1, 2, 0, 0, 1, 2, 2, 2, 2, 3, 0, 0]
            self.assertEqual(told[7], [3, *left])
            count = 1 if away == take(2) else 0
            self.assertEqual(told[9], [4, *left, 3, 1, count, count])

    def test_as_many_as_can_be_sent(self):
        self.assertEqual(last(*[tell(1, 2)] * 99, air()), [99] + [1, 2, 0, 0] * 99)

    def test_a_meeting_where_a_hundred_are_on_their_way(self):
        self.assertEqual(last(*[meet(1, 2)] * 100, meet(1, 3), air()), [100] + [1, 2, 0, 0] * 100)


if __name__ == "__main__":
    unittest.main()
