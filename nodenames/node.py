"""A node: what it knows, whom it reaches, what its processes have lost."""

from nodenames.claim import Claim
from nodenames.letter import Letter


class Node:
    """Known has the eldest claim first; reached has first the node that was reached longest."""

    def __init__(self, number, nodes):
        self.number = number
        self.count = 0
        self.known = []
        self.reached = list(range(1, nodes + 1))
        self.losses = {}

    def reaches(self, other):
        return other in self.reached

    def begin_to_reach(self, other):
        # One that is reached already keeps its place: it has been reached for longer.
        if other not in self.reached:
            self.reached.append(other)

    def cease_to_reach(self, other):
        if other in self.reached:
            self.reached.remove(other)

    def stands(self, claim):
        return not claim.given_up and self.reaches(claim.node)

    def holder(self, name):
        """The eldest claim on the name that stands here, or None."""
        for claim in self.known:
            if claim.name == name and self.stands(claim):
                return claim
        return None

    def own_claims(self):
        return [claim for claim in self.known if claim.node == self.number and not claim.given_up]

    def make_claim(self, process, name):
        self.count = self.count + 1
        self.learn(Claim(self.count, self.number, process, name, False))
        return self.count

    def learn(self, claim):
        place = 0
        while place < len(self.known) and self.known[place].stamp() < claim.stamp():
            place = place + 1
        if place == len(self.known) or self.known[place].stamp() != claim.stamp():
            self.known.insert(place, claim)
        elif claim.given_up:
            # Only this way round: what an old letter says must not undo a giving up.
            self.known[place] = claim

    def give_up(self, process, names):
        """How many own claims of the process on one of the names are given up by this."""
        given = 0
        for claim in self.own_claims():
            if claim.process == process and claim.name in names:
                self.learn(claim.when_given_up())
                given = given + 1
        return given

    def look_through_own(self):
        """How many own claims are lost by this."""
        lost = 0
        for claim in self.own_claims():
            if self.holder(claim.name).stamp() != claim.stamp():
                self.learn(claim.when_given_up())
                self.losses.setdefault(claim.process, []).append((claim.name, claim.count))
                lost = lost + 1
        return lost

    def losses_of(self, process):
        """The name and the count of each claim that the process has lost, in order."""
        return list(self.losses.get(process, []))

    def write_letter(self, receiver):
        return Letter(self.number, receiver, list(self.known), self.count)

    def receive(self, letter):
        """How many own claims are lost by this."""
        for claim in letter.known:
            self.learn(claim)
        self.count = max(self.count, letter.count)
        return self.look_through_own()
