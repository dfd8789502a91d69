"""What an object holds from its begin on."""


class World:
    def __init__(self):
        self.events = []
        self.factor = (1, 1)
        self.ways = ([], [])

    def has_event(self, i):
        return i < len(self.events)

    def has_way(self, w):
        return w < len(self.ways)
