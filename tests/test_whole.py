"""What the document promises over the whole program, in lists of calls of all sixteen kinds."""

import unittest

from tests.asking import ask, begin, claim, claims, claims_in, drawn_calls, free, keep, lost, meet, names, rows, take
from tests.asking import tell, turns, who

QUESTIONS = (11, 12, 13, 14, 15)
SEEDS = range(60)
LENGTH = 40


def changing_calls(seed):
    """Calls that may change something, behind one begin; and how many nodes there are."""
    calls = drawn_calls(seed, 2 * LENGTH)
    return [call for call in calls if call[0] not in QUESTIONS and call[0] != 0][:LENGTH], calls[0][1]


def all_losses(nodes):
    return [lost(n, p) for n in range(1, nodes + 1) for p in range(1, 10)]


class WhereAllHaveMet(unittest.TestCase):
    def test_all_say_the_same_with_one_at_most_for_each_name(self):
        held = 0
        for seed in range(300):
            calls, nodes = changing_calls(seed)
            every = range(1, nodes + 1)
            pairs = [(a, b) for a in every for b in every if a != b]
            together = [*[meet(a, b) for a, b in pairs], turns(500), *[tell(a, b) for a, b in pairs], turns(500)]
            told = ask(begin(nodes), *calls, *together, *[names(n) for n in every], *[claims(n) for n in every])
            seen = told[-2 * nodes:-nodes]
            known = [claims_in(answer)[2] for answer in told[-nodes:]]
            standing = [row[0] for row in known[0] if row[4] == 0]
            with self.subTest(seed=seed):
                self.assertEqual(seen, [seen[0]] * nodes)
                self.assertEqual(known, [known[0]] * nodes)
                self.assertEqual(sorted(standing), [row[0] for row in rows(seen[0], 3)])
            held += len(standing)
        self.assertGreater(held, 300)


class StepByStep(unittest.TestCase):
    """Each list up to each of its calls, so that what is asked between changes nothing of what is looked at."""

    def steps(self, asked):
        for seed in SEEDS:
            calls, nodes = changing_calls(seed)
            questions = asked(nodes)
            before = None
            for length in range(len(calls) + 1):
                told = ask(begin(nodes), *calls[:length], *questions)[length + 1:]
                if before is not None:
                    yield [begin(nodes), *calls[:length]], before, told
                before = told

    def test_what_is_given_up_stays_so_and_what_is_known_stays_known(self):
        given_up = 0
        for _, before, told in self.steps(lambda nodes: [claims(n) for n in range(1, nodes + 1)]):
            for older, newer in zip(before, told):
                count, _, known = claims_in(older)
                new_count, _, new_known = claims_in(newer)
                flags = {row[:4]: row[4] for row in new_known}
                self.assertGreaterEqual(new_count, count)
                for row in known:
                    self.assertGreaterEqual(flags[row[:4]], row[4])
                    given_up += row[4]
        self.assertGreater(given_up, 0)

    def test_no_two_claims_have_one_stamp(self):
        for _, _, told in self.steps(lambda nodes: [claims(n) for n in range(1, nodes + 1)]):
            of_stamp = {}
            for answer in told:
                stamps = [row[1:3] for row in claims_in(answer)[2]]
                self.assertEqual(stamps, sorted(set(stamps)))
                for row in claims_in(answer)[2]:
                    self.assertEqual(of_stamp.setdefault(row[1:3], row[:4]), row[:4])

    def test_each_loss_is_told_once_and_for_an_elder_holder(self):
        losses = 0
        for calls, before, told in self.steps(all_losses):
            for question, older, newer in zip(all_losses(calls[0][1]), before, told):
                self.assertEqual(rows(newer, 2)[:older[0]], rows(older, 2))
                self.assertEqual(len(set(rows(newer, 2))), newer[0])
                for name, count in rows(newer, 2)[older[0]:]:
                    self.check_loss(calls, question[1], question[2], name, count)
                    losses += 1
        self.assertGreater(losses, 0)

    def check_loss(self, calls, n, p, name, count):
        *ahead, call = calls
        self.assertIn(call[0], (5, 7, 8, 10))
        known_before = claims_in(ask(*ahead, claims(n))[-1])[2]
        self.assertIn((name, count, n, p, 0), known_before)
        holder, known = ask(*calls, who(n, name), claims(n))[-2:]
        self.assertIn((name, count, n, p, 1), claims_in(known)[2])
        # By several turns the elder one may be learned, and then that it was given up too.
        if call[0] != 10 or call[1] == 1:
            self.assertEqual(holder[0], 1)
            self.assertLess((holder[3], holder[1]), (count, n))

    def test_a_name_that_is_seen_held_is_not_given_again(self):
        given = 0
        for seed in SEEDS:
            calls, nodes = changing_calls(seed)
            for at, call in enumerate(calls):
                if call[0] == 1 and call[1] in range(1, nodes + 1) and call[2] in range(1, 10) and call[3] < 10:
                    _, n, p, name = call
                    ahead, told, behind = ask(begin(nodes), *calls[:at], who(n, name), call, who(n, name))[-3:]
                    if ahead[0] == 1:
                        self.assertEqual((told, behind), ([0, ahead[1], ahead[2]], ahead))
                    else:
                        self.assertEqual(behind, [1, n, p, told[0]])
                        given += 1
        self.assertGreater(given, 0)

    def test_who_and_names_and_claims_say_the_same(self):
        def asked(nodes):
            every = range(1, nodes + 1)
            return [call for n in every for call in (names(n), claims(n), *[who(n, name) for name in range(10)])]

        for _, _, told in self.steps(asked):
            for at in range(0, len(told), 12):
                _, reached, known = claims_in(told[at + 1])
                holders = [(name, *answer[1:]) for name, answer in enumerate(told[at + 2:at + 12]) if answer[0] == 1]
                self.assertEqual(rows(told[at], 3), [holder[:3] for holder in holders])
                standing = [row for row in known if row[4] == 0 and row[2] in reached]
                eldest = {}
                for name, count, node, process, _ in standing:
                    eldest.setdefault(name, (name, node, process, count))
                self.assertEqual(holders, [eldest[name] for name in sorted(eldest)])


class LateAndTwice(unittest.TestCase):
    def test_in_any_order_and_any_number_of_times(self):
        sent = [begin(4), claim(1, 1, 1), claim(2, 2, 1), claim(3, 3, 1), claim(3, 3, 2), claim(2, 5, 2),
                tell(1, 4), tell(2, 4), free(2, 2, 1), tell(2, 4), tell(3, 4)]
        shown = [claims(4), names(4)]
        in_order = ask(*sent, turns(4), *shown)[-2:]
        for order in ((4, 3, 2, 1), (2, 4, 1, 3), (3, 2, 4, 1), (1, 1, 4, 4, 3, 3, 2, 2), (3, 2, 3, 2, 1, 4, 1)):
            with self.subTest(order=order):
                self.assertEqual(ask(*sent, *[keep(k) for k in order], *shown)[-2:], in_order)
        self.assertEqual(ask(*sent, *[take(k) for k in (4, 2, 2, 1)], *shown)[-2:], in_order)


if __name__ == "__main__":
    unittest.main()
