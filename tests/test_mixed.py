"""Lists of calls of all sixteen kinds mixed, beside a second telling of the document's words."""

import unittest

from nodenames.holders import answers
from tests.asking import ask, drawn_calls, joined

NAME_OF = [
    "begin", "claim", "free", "dies", "part", "meet", "tell", "take", "keep", "lose", "turns", "who", "names", "lost",
    "claims", "air",
]


class Refusal(Exception):
    pass


def refuse_if(wrong, number):
    if wrong:
        raise Refusal(number)


class ToldAgain:
    """The words once more, as tuples and sets: a claim is (count, node, process, name), its giving up stands apart."""

    def __init__(self):
        self.begin(3)

    def answer(self, call):
        try:
            return getattr(self, NAME_OF[call[0]])(*call[1:])
        except Refusal as refusal:
            return [refusal.args[0]]

    def node(self, n):
        refuse_if(n not in self.nodes, -1)
        return self.nodes[n]

    def pair(self, n, m):
        self.node(m)
        refuse_if(n == m, -1)
        return self.node(n)

    def letter(self, k):
        refuse_if(not 0 < k <= len(self.on_way), -5)
        return self.on_way[k - 1]

    def holder(self, n, name):
        node = self.nodes[n]
        standing = node["known"] - node["given up"]
        return min([claim for claim in standing if claim[3] == name and claim[1] in node["reached"]], default=None)

    def look_through(self, n):
        node = self.nodes[n]
        losing = [claim for claim in sorted(node["known"] - node["given up"])
                  if claim[1] == n and self.holder(n, claim[3]) != claim]
        node["given up"].update(losing)
        node["lost"].extend(losing)
        return len(losing)

    def give_up(self, n, p, wanted):
        node = self.node(n)
        refuse_if(p not in range(1, 10), -1)
        given = {claim for claim in node["known"] - node["given up"] if claim[1:3] == (n, p) and claim[3] in wanted}
        node["given up"].update(given)
        return [len(given)]

    def send(self, n, m):
        node = self.nodes[n]
        self.on_way.append((n, m, node["count"], frozenset(node["known"]), frozenset(node["given up"])))

    def arrive(self, letter):
        _, to, count, known, given_up = letter
        node = self.nodes[to]
        node["known"].update(known)
        node["given up"].update(given_up)
        node["count"] = max(node["count"], count)
        return self.look_through(to)

    def begin(self, n):
        refuse_if(n not in (2, 3, 4), -1)
        numbers = range(1, n + 1)
        self.nodes = {number: {"count": 0, "known": set(), "given up": set(), "reached": list(numbers), "lost": []}
                      for number in numbers}
        self.on_way = []
        return [0]

    def claim(self, n, p, name):
        node = self.node(n)
        refuse_if(p not in range(1, 10) or name > 9, -1)
        holder = self.holder(n, name)
        if holder:
            return [0, holder[1], holder[2]]
        refuse_if(len(node["known"]) >= 40, -6)
        node["count"] += 1
        node["known"].add((node["count"], n, p, name))
        return [node["count"]]

    def free(self, n, p, name):
        refuse_if(name > 9, -1)
        return self.give_up(n, p, [name])

    def dies(self, n, p):
        return self.give_up(n, p, range(10))

    def part(self, n, m):
        node = self.pair(n, m)
        before = len(node["reached"])
        node["reached"] = [other for other in node["reached"] if other != m]
        return [before - len(node["reached"])]

    def meet(self, n, m):
        node = self.pair(n, m)
        reached = m in node["reached"]
        node["reached"] += [] if reached else [m]
        self.look_through(n)
        if len(self.on_way) < 100:
            self.send(n, m)
        return [int(reached)]

    def tell(self, n, m):
        node = self.pair(n, m)
        refuse_if(m not in node["reached"], -4)
        refuse_if(len(self.on_way) >= 100, -6)
        self.send(n, m)
        return [len(node["known"])]

    def take(self, k):
        told = self.keep(k)
        self.lose(k)
        return told

    def keep(self, k):
        letter = self.letter(k)
        return [letter[1], self.arrive(letter)]

    def lose(self, k):
        receiver = self.letter(k)[1]
        self.on_way = self.on_way[:k - 1] + self.on_way[k:]
        return [receiver]

    def turns(self, n):
        refuse_if(n > 500, -1)
        arriving, self.on_way = self.on_way[:n], self.on_way[n:]
        for letter in arriving:
            self.arrive(letter)
        return [len(arriving)]

    def who(self, n, name):
        self.node(n)
        refuse_if(name > 9, -1)
        holder = self.holder(n, name)
        return [1, holder[1], holder[2], holder[0]] if holder else [0]

    def names(self, n):
        self.node(n)
        held = [holder for holder in (self.holder(n, name) for name in range(10)) if holder]
        return [len(held)] + [number for holder in held for number in (holder[3], holder[1], holder[2])]

    def lost(self, n, p):
        node = self.node(n)
        refuse_if(p not in range(1, 10), -1)
        losses = [claim for claim in node["lost"] if claim[2] == p]
        return [len(losses)] + [number for claim in losses for number in (claim[3], claim[0])]

    def claims(self, n):
        node = self.node(n)
        told = [node["count"], len(node["reached"]), *node["reached"], len(node["known"])]
        for claim in sorted(node["known"]):
            told += [claim[3], claim[0], claim[1], claim[2], int(claim in node["given up"])]
        return told

    def air(self):
        told = [len(self.on_way)]
        for sender, to, count, known, _ in self.on_way:
            told += [sender, to, count, len(known)]
        return told


class Mixed(unittest.TestCase):
    def test_as_the_words_tell_it(self):
        seen = set()
        for seed in range(600):
            calls = drawn_calls(seed, seed % 100 + 1)
            again = ToldAgain()
            told = ask(*calls)
            with self.subTest(seed=seed):
                self.assertEqual(told, [again.answer(call) for call in calls])
            for call, answer in zip(calls, told):
                seen.add((NAME_OF[call[0]], min(answer[0], 0)))
                if call[0] in (7, 8) and len(answer) == 2 and answer[1] > 0:
                    seen.add((NAME_OF[call[0]], "some lost"))
                if call[0] in (11, 12, 13, 15) and answer[0] > 0:
                    seen.add((NAME_OF[call[0]], "some told"))
        self.assertEqual({kind for kind, what in seen if what == 0}, set(NAME_OF))
        self.assertEqual({kind for kind, what in seen if what == -1}, set(NAME_OF) - {"take", "keep", "lose", "air"})
        self.assertLessEqual({("take", -5), ("keep", -5), ("lose", -5), ("tell", -4)}, seen)
        self.assertLessEqual({("take", "some lost"), ("keep", "some lost")}, seen)
        self.assertEqual({kind for kind, what in seen if what == "some told"}, {"who", "names", "lost", "air"})

    def test_without_a_begin(self):
        for seed in range(100):
            calls = drawn_calls(seed, 60)[1:]
            again = ToldAgain()
            self.assertEqual(ask(*calls), [again.answer(call) for call in calls])

    def test_nothing_changed_and_nothing_kept(self):
        for seed in range(100):
            calls = joined(drawn_calls(seed, 100))
            self.assertLessEqual(len(calls), 400)
            handed_in = list(calls)
            told = answers(handed_in)
            self.assertEqual(handed_in, calls)
            self.assertEqual(answers(handed_in), told)
            self.assertEqual({type(number) for number in told}, {int})

    def test_what_comes_later_changes_no_answer(self):
        for seed in range(20):
            calls = drawn_calls(seed, 100)
            told = ask(*calls)
            for length in (1, 17, 50, 99):
                self.assertEqual(ask(*calls[:length]), told[:length])


if __name__ == "__main__":
    unittest.main()
