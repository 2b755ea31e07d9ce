"""A claim of a process on a name."""


class Claim:
    """Never changed once it is made, so that nodes and letters may share it."""

    def __init__(self, count, node, process, name, given_up):
        self.count = count
        self.node = node
        self.process = process
        self.name = name
        self.given_up = given_up

    def stamp(self):
        """Of two claims the elder has the lesser stamp."""
        return (self.count, self.node)

    def when_given_up(self):
        return Claim(self.count, self.node, self.process, self.name, True)
