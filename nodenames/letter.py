"""A letter from one node to another."""


class Letter:
    """Known and count are the sender's as they were when the letter was sent."""

    def __init__(self, sender, receiver, known, count):
        self.sender = sender
        self.receiver = receiver
        self.known = known
        self.count = count
