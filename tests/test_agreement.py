"""Where all have met, all say the same of each name, and nobody holds a name beside its holder."""

import unittest

from tests.asking import ask, begin, claim, free, joined, meet, numbers_from, part, take, tell

NODES = 3
PAIRS = [(a, b) for a in range(1, NODES + 1) for b in range(1, NODES + 1) if a != b]
NAMES = range(3)


def some_calls(seed, length):
    draw = numbers_from(seed)
    calls = []
    for _ in range(length):
        pair = PAIRS[next(draw) % len(PAIRS)]
        process = next(draw) % 9 + 1
        name = next(draw) % len(NAMES)
        kinds = [claim(pair[0], process, name), claim(pair[0], process, name), free(pair[0], process, name),
                 part(*pair), meet(*pair), tell(*pair), take(next(draw) % 3 + 1)]
        calls.append(kinds[next(draw) % len(kinds)])
    return calls


def all_meet(calls):
    """The calls and such by which each knows in the end what each has given up."""
    on_way = 0
    for call, told in zip(calls, ask(*calls)):
        if told[0] >= 0:
            on_way += {5: 1, 6: 1, 7: -1}.get(call[0], 0)
    together = [meet(a, b) for a, b in PAIRS]
    together += [take(1)] * (on_way + len(PAIRS))
    together += [tell(a, b) for a, b in PAIRS]
    together += [take(1)] * len(PAIRS)
    return calls + together


class Agreement(unittest.TestCase):
    def test_all_see_the_same_holder(self):
        held = 0
        for seed in range(300):
            calls = [begin(NODES)] + some_calls(seed, 45)
            calls = all_meet(calls)
            self.assertLessEqual(len(joined(calls)), 400)
            for name in NAMES:
                told = [ask(*calls, claim(n, 1, name))[-1] for n in range(1, NODES + 1)]
                holders = [answer for answer in told if answer[0] == 0]
                with self.subTest(seed=seed, name=name):
                    self.assertIn(len(holders), (0, NODES))
                    self.assertTrue(all(holder == holders[0] for holder in holders))
                    self.check_that_only_the_holder_can_free(calls, name, holders[:1])
                held += len(holders)
        self.assertGreater(held, 0)

    def check_that_only_the_holder_can_free(self, calls, name, holders):
        everyone = [(n, p) for n in range(1, NODES + 1) for p in range(1, 10)]
        told = ask(*calls, *[free(n, p, name) for n, p in everyone])[len(calls):]
        freed = [[0, n, p] for (n, p), answer in zip(everyone, told) if answer == [1]]
        self.assertEqual(freed, holders)


if __name__ == "__main__":
    unittest.main()
