"""A world of nodes and of the letters on their way, with the calls on it."""

from nodenames.node import Node

NODES_AT_FIRST = 3
LEAST_NODES = 2
MOST_NODES = 4
LAST_PROCESS = 9
LAST_NAME = 9
MOST_CLAIMS = 40
MOST_LETTERS = 100
MOST_TURNS = 500

NO_SUCH = -1
NOT_REACHED = -4
NO_LETTER = -5
FULL = -6


class World:
    """Each call answers a list of whole numbers; a refusal is one number below 0, and changes nothing."""

    def __init__(self):
        self.nodes = []
        self.letters = []
        self.begin(NODES_AT_FIRST)

    def is_node(self, n):
        return 1 <= n <= len(self.nodes)

    def is_process(self, n, p):
        return self.is_node(n) and 1 <= p <= LAST_PROCESS

    def is_letter(self, k):
        return 1 <= k <= len(self.letters)

    def are_two_nodes(self, n, m):
        return self.is_node(n) and self.is_node(m) and n != m

    def node_at(self, n):
        return self.nodes[n - 1]

    def is_full_of_letters(self):
        return len(self.letters) >= MOST_LETTERS

    def send_letter(self, n, m):
        self.letters.append(self.node_at(n).write_letter(m))

    def deliver(self, letter):
        """How many claims are lost by this where the letter arrives."""
        return self.node_at(letter.receiver).receive(letter)

    def begin(self, n):
        if n < LEAST_NODES or n > MOST_NODES:
            return [NO_SUCH]
        self.nodes = [Node(number, n) for number in range(1, n + 1)]
        self.letters = []
        return [0]

    def claim(self, n, p, name):
        if not self.is_process(n, p) or name > LAST_NAME:
            return [NO_SUCH]
        node = self.node_at(n)
        holder = node.holder(name)
        if holder is not None:
            return [0, holder.node, holder.process]
        # Letters may have brought more than the limit.
        if len(node.known) >= MOST_CLAIMS:
            return [FULL]
        return [node.make_claim(p, name)]

    def free(self, n, p, name):
        if not self.is_process(n, p) or name > LAST_NAME:
            return [NO_SUCH]
        return [self.node_at(n).give_up(p, [name])]

    def dies(self, n, p):
        if not self.is_process(n, p):
            return [NO_SUCH]
        return [self.node_at(n).give_up(p, list(range(LAST_NAME + 1)))]

    def part(self, n, m):
        if not self.are_two_nodes(n, m):
            return [NO_SUCH]
        reached = self.node_at(n).reaches(m)
        self.node_at(n).cease_to_reach(m)
        return [1 if reached else 0]

    def meet(self, n, m):
        if not self.are_two_nodes(n, m):
            return [NO_SUCH]
        node = self.node_at(n)
        reached = node.reaches(m)
        node.begin_to_reach(m)
        node.look_through_own()
        if not self.is_full_of_letters():
            self.send_letter(n, m)
        return [1 if reached else 0]

    def tell(self, n, m):
        if not self.are_two_nodes(n, m):
            return [NO_SUCH]
        node = self.node_at(n)
        if not node.reaches(m):
            return [NOT_REACHED]
        if self.is_full_of_letters():
            return [FULL]
        self.send_letter(n, m)
        return [len(node.known)]

    def take(self, k):
        if not self.is_letter(k):
            return [NO_LETTER]
        letter = self.letters.pop(k - 1)
        return [letter.receiver, self.deliver(letter)]

    def keep(self, k):
        if not self.is_letter(k):
            return [NO_LETTER]
        letter = self.letters[k - 1]
        return [letter.receiver, self.deliver(letter)]

    def lose(self, k):
        if not self.is_letter(k):
            return [NO_LETTER]
        return [self.letters.pop(k - 1).receiver]

    def turns(self, n):
        if n > MOST_TURNS:
            return [NO_SUCH]
        arrived = 0
        while arrived < n and len(self.letters) > 0:
            self.deliver(self.letters.pop(0))
            arrived = arrived + 1
        return [arrived]

    def who(self, n, name):
        if not self.is_node(n) or name > LAST_NAME:
            return [NO_SUCH]
        holder = self.node_at(n).holder(name)
        if holder is None:
            return [0]
        return [1, holder.node, holder.process, holder.count]

    def names(self, n):
        if not self.is_node(n):
            return [NO_SUCH]
        node = self.node_at(n)
        found = [node.holder(name) for name in range(LAST_NAME + 1)]
        held = [holder for holder in found if holder is not None]
        told = [len(held)]
        for holder in held:
            told.extend([holder.name, holder.node, holder.process])
        return told

    def lost(self, n, p):
        if not self.is_process(n, p):
            return [NO_SUCH]
        losses = self.node_at(n).losses_of(p)
        told = [len(losses)]
        for loss in losses:
            told.extend([loss[0], loss[1]])
        return told

    def claims(self, n):
        if not self.is_node(n):
            return [NO_SUCH]
        node = self.node_at(n)
        told = [node.count, len(node.reached)] + node.reached + [len(node.known)]
        for claim in node.known:
            told.extend([claim.name, claim.count, claim.node, claim.process, 1 if claim.given_up else 0])
        return told

    def air(self):
        told = [len(self.letters)]
        for letter in self.letters:
            told.extend([letter.sender, letter.receiver, letter.count, len(letter.known)])
        return told
