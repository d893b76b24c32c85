"""The lines of a world's text."""

from eithershown.kinds import FIGURES
from eithershown.tables import power, told_world

MOST_THINGS = 9


def numbers_text(numbers):
    """Each number with a blank ahead."""
    return "".join([f" {number}" for number in numbers])


def world_lines(world):
    many, functions, predicates = told_world(world)
    lines = [f"things {many}\n"]
    for name in functions:
        lines.extend([f"{name}{numbers_text(row)} is {functions[name][row]}\n" for row in functions[name]])
    for name in predicates:
        lines.extend([f"{name}{numbers_text(row)}\n" for row in predicates[name]])
    return "".join(lines)


class WorldReader:
    """Reads a world's lines; as each row is told but once, it counts what is told of each beginning of a row."""

    def __init__(self, reader, names):
        self.reader = reader
        self.places = dict(names.functions() + names.predicates())
        self.tables = {name: {} for name in dict(names.functions())}
        self.true_rows = {name: [] for name in dict(names.predicates())}
        self.told = {}
        self.many = 0

    def read(self):
        self.reader.expect("things ")
        self.many = int(self.reader.choose(list(FIGURES[1:])))
        self.reader.expect("\n")
        while not self.reader.at_end():
            self.read_line()
        for name in self.tables:
            if len(self.tables[name]) < power(self.many, self.places[name]):
                self.reader.fail(self.reader.at)
        return told_world((self.many, self.tables, self.true_rows))

    def has_left(self, name, begun):
        """Whether some row that begins so is not told yet."""
        return self.told.get((name, begun), 0) < power(self.many, self.places[name] - len(begun))

    def read_line(self):
        name = self.reader.choose([name for name in self.places if self.has_left(name, ())])
        row = ()
        for _ in range(self.places[name]):
            self.reader.expect(" ")
            left = [str(thing) for thing in range(self.many) if self.has_left(name, row + (thing,))]
            row = row + (int(self.reader.choose(left)),)
        if name in self.tables:
            self.reader.expect(" is ")
            self.tables[name][row] = int(self.reader.choose([str(thing) for thing in range(self.many)]))
        else:
            self.true_rows[name].append(row)
        self.reader.expect("\n")
        for length in range(len(row) + 1):
            begun = (name, row[:length])
            self.told[begun] = self.told.get(begun, 0) + 1
