"""Searches for a world of so many things, or for a tree that shows that there is none.

A cell is put, with each value that is due, unless an instance fails by it at once. What is found out below a value may
not hang on the cell: then it is told of the place above, and the other values need not be tried.
"""

from eithershown.cells import Cells
from eithershown.sizing import branches_due


class Branching:
    """A cell on the way: how many values are due, the trees for the first ones, the cells on which these hang, as the
    bits of a number."""

    def __init__(self, cell, due, mark):
        self.cell = cell
        self.due = due
        self.mark = mark
        self.trees = []
        self.reached = 0
        self.freed = None

    def take(self, tree, reached):
        bit = 1 << self.cell
        if reached & bit == 0:
            self.freed = tree
            self.reached = reached
        else:
            self.trees.append(tree)
            self.reached = self.reached | (reached - bit)

    def is_done(self):
        return self.freed is not None or len(self.trees) == self.due

    def tree(self):
        """What stands for this place: a pair of the cell and trees, or what hangs on the cell no more."""
        return (self.cell, self.trees) if self.freed is None else self.freed


class SizeSearch:
    """Cells, and instances that watch those they ask.

    An instance that is neither true nor fails watches two cells without worth that it asks; or the one that it asks,
    and what it would ask by each of its values: so none ever fails that had not barred the value ahead. It watches the
    cells that it watched ahead, too, as they may be taken back. barred are, of each cell, the values by which an
    instance fails at once, with this instance.
    """

    def __init__(self, clauses, many):
        self.cells = Cells(clauses, many)
        self.instances = self.cells.instances(clauses)
        self.watching = [{} for _ in self.cells.places]
        self.barred = [{} for _ in self.cells.places]
        self.heat = [0] * len(self.cells.places)
        self.trail = []
        self.way = []
        self.failed = None
        for number in range(len(self.instances)):
            self.look(number)

    def look(self, number):
        """Lets an instance watch what it asks now."""
        asked = self.cells.judged(self.instances[number])
        if asked is None:
            return
        for cell in asked:
            self.watch(cell, number)
        if len(asked) == 1:
            self.bar_values(asked[0], number)
        elif len(asked) == 0 and self.failed is None:
            self.failed = number

    def watch(self, cell, number):
        if number not in self.watching[cell]:
            self.watching[cell][number] = True
            self.trail.append(("watch", cell, number))

    def bar_values(self, cell, number):
        """Bars the values by which an instance fails that asks this cell alone."""
        barred = self.barred[cell]
        for worth in range(self.cells.counts[cell]):
            if worth not in barred:
                self.cells.worths[cell] = worth
                asked = self.cells.judged(self.instances[number])
                if asked is not None and len(asked) == 0:
                    barred[worth] = number
                    self.trail.append(("bar", cell, worth))
                elif asked is not None:
                    self.watch(asked[0], number)
        self.cells.worths[cell] = None

    def put(self, cell, worth):
        self.cells.worths[cell] = worth
        for number in list(self.watching[cell]):
            self.look(number)

    def take_back(self, cell, mark):
        """Takes a cell back, and all that came of it."""
        self.cells.worths[cell] = None
        while len(self.trail) > mark:
            kind, at, key = self.trail.pop()
            if kind == "watch":
                del self.watching[at][key]
            else:
                del self.barred[at][key]

    def greatest(self):
        """The greatest thing on the way, in rows or values; -1 without any."""
        told = [self.cells.tops[branching.cell] for branching in self.way]
        told.extend([len(branching.trees) for branching in self.way if self.cells.is_function(branching.cell)])
        return max([-1] + told)

    def due(self, cell, greatest):
        """How many values are due for a cell."""
        if not self.cells.is_function(cell):
            return 2
        return branches_due(self.cells.many, max(greatest, self.cells.tops[cell]))

    def haste(self, cell, greatest):
        """What is least for the cell that is put next: first what fails by all values, then what brings at most one new
        thing, then by how few values are left."""
        due = self.due(cell, greatest)
        left = due - len([worth for worth in self.barred[cell] if worth < due])
        new = max(0, self.cells.tops[cell] - greatest)
        return (0 if left == 0 else 1, 0 if new < 2 else new, 0 if left < 2 else 1, new, left, -self.heat[cell], cell)

    def is_asked(self, cell):
        """Whether an instance that is not true watches a cell."""
        for number in self.watching[cell]:
            if self.cells.judged(self.instances[number]) is not None:
                return True
        return False

    def next_cell(self, greatest):
        """The cell that is put next, None if no instance asks any."""
        worths = self.cells.worths
        open_cells = [cell for cell in range(len(worths)) if worths[cell] is None and len(self.watching[cell]) > 0]
        for row in sorted([self.haste(cell, greatest) for cell in open_cells]):
            if self.is_asked(row[-1]):
                return row[-1]
        return None

    def go_down(self):
        """Puts one cell more on the way; False if no instance asks any."""
        greatest = self.greatest()
        cell = self.next_cell(greatest)
        if cell is None:
            return False
        self.way.append(Branching(cell, self.due(cell, greatest), len(self.trail)))
        return True

    def go_on(self):
        """Goes on at the last place to the next value by which no instance fails at once, or up from places that are
        done; the whole tree, if all are."""
        while True:
            last = self.way[-1]
            worth = len(last.trees)
            if last.is_done():
                self.heat[last.cell] += 1 if last.freed is None else 0
                self.way.pop()
                if len(self.way) == 0:
                    return last.tree()
                self.take_back(self.way[-1].cell, self.way[-1].mark)
                self.way[-1].take(last.tree(), last.reached)
            elif worth in self.barred[last.cell]:
                self.cells.worths[last.cell] = worth
                number = self.barred[last.cell][worth]
                reached = self.cells.reach(self.instances[number])
                self.cells.worths[last.cell] = None
                last.take(number, reached)
            else:
                self.put(last.cell, worth)
                return None

    def search(self):
        """None if there is a world, by the worths of the cells; else a tree: pairs of cells and trees, instances."""
        tree = self.failed
        while tree is None:
            if not self.go_down():
                return None
            tree = self.go_on()
        return tree

    def told_tree(self, tree):
        """The tree as it is told, with just as many branches as are due where cells that it hung on are gone."""
        told = []
        work = [(tree, -1, told)]
        while len(work) > 0:
            part, greatest, home = work.pop()
            if isinstance(part, int):
                home.append(self.instances[part].leaf())
            else:
                cell, trees = part
                name, row = self.cells.places[cell]
                home.append(("cell", name, list(row), []))
                most = max(greatest, self.cells.tops[cell])
                for worth in range(self.due(cell, greatest) - 1, -1, -1):
                    now = max(most, worth) if self.cells.is_function(cell) else most
                    work.append((trees[worth], now, home[-1][3]))
        return told[0]
