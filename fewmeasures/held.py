"""The list of measures and items that is held."""


class HeldList:
    """Measures and items, each numbered from 0 in the order in which they were told."""

    def __init__(self):
        self.measures = []
        self.ways = []
        self.names = []
        self.rows = []
        self.gains = []

    def add_measure(self, name, way):
        self.measures.append(name)
        self.ways.append(way)

    def add_item(self, name, row):
        """A row has the item's values as they were told, its gains have them turned so that more is better."""
        self.names.append(name)
        self.rows.append(row)
        self.gains.append([value if way == "up" else -value for value, way in zip(row, self.ways)])

    def every_measure(self):
        return list(range(len(self.measures)))

    def every_item(self):
        return list(range(len(self.names)))
