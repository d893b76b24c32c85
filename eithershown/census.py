"""Worlds of so many things in which all clauses hold, counted cell by cell in the order in which worlds are
numbered."""

from eithershown.cells import Cells


class Census:
    """Cells that are put in order. An instance that is neither true nor fails waits for one cell that it asks."""

    def __init__(self, clauses, many):
        self.cells = Cells(clauses, many)
        self.waiting = [[] for _ in self.cells.places]
        self.moves = []
        self.failed = 0
        self.still_open = 0
        self.products = [1]
        for count in self.cells.counts[::-1]:
            self.products.append(self.products[-1] * count)
        for instance in self.cells.instances(clauses):
            self.place(instance)

    def place(self, instance):
        """Lets an instance wait for a cell that it asks now."""
        asked = self.cells.judged(instance)
        if asked is None:
            return None
        if len(asked) == 0:
            self.failed += 1
            return None
        self.waiting[asked[0]].append(instance)
        self.still_open += 1
        return asked[0]

    def put(self, worth):
        """Puts the next cell."""
        cell = len(self.moves)
        self.cells.worths[cell] = worth
        failed = self.failed
        homes = []
        for instance in list(self.waiting[cell]):
            if self.failed == failed:
                homes.append(self.place(instance))
        self.still_open = self.still_open - len(self.waiting[cell])
        self.moves.append([home for home in homes if home is not None])

    def take_back(self):
        """Takes the last cell back."""
        homes = self.moves.pop()
        cell = len(self.moves)
        self.cells.worths[cell] = None
        for home in homes:
            self.waiting[home].pop()
        self.still_open = self.still_open + len(self.waiting[cell]) - len(homes)
        self.failed = 0

    def count(self):
        """How many worlds there are by what is put."""
        if self.failed > 0:
            return 0
        cell = len(self.moves)
        if self.still_open == 0:
            return self.products[-1 - cell]
        total = 0
        for worth in range(self.cells.counts[cell]):
            self.put(worth)
            total = total + self.count()
            self.take_back()
        return total

    def go_to(self, number):
        """Puts all cells as they are in the world with this number among those that are counted."""
        rest = number
        for count in self.cells.counts:
            worth = 0
            while worth < count - 1:
                self.put(worth)
                found = self.count()
                if rest < found:
                    break
                rest = rest - found
                self.take_back()
                worth += 1
            if worth == count - 1:
                self.put(worth)
