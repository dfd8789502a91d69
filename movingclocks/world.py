"""What an object holds from its begin on."""

MOST_TAKEN_BACK = 10


class World:
    def __init__(self):
        self.events = []
        self.factor = (1, 1)
        self.ways = ([], [])
        self.past = []

    def has_event(self, i):
        return i < len(self.events)

    def has_way(self, w):
        return w < len(self.ways)

    def all_held(self):
        """All that a change can change, copied."""
        return (list(self.events), self.factor, (list(self.ways[0]), list(self.ways[1])))

    def remember(self, held):
        self.past.append(held)
        if len(self.past) > MOST_TAKEN_BACK:
            self.past.pop(0)

    def take_back(self):
        held = self.past.pop()
        self.events = held[0]
        self.factor = held[1]
        self.ways = held[2]
