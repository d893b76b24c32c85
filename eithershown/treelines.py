"""The lines of what stays open: a table's classes and facts, and a tree for each size."""

from eithershown.rulelines import pairs_text
from eithershown.worldlines import numbers_text
from eithershown.writing import written


def table_lines(table):
    classes, facts = table
    lines = ["class " + ", ".join([written(word) for word in words]) + "\n" for words in classes]
    lines.extend([f"fact {name}{numbers_text(numbers)}\n" for name, numbers in facts])
    return "".join(lines)


def tree_lines(tree):
    """A line for each node, ahead of those of its trees."""
    lines = []
    work = [tree]
    while work:
        node = work.pop()
        if node[0] == "clash":
            lines.append(f"clash {node[1]}{pairs_text(node[2])}\n")
        else:
            lines.append(f"cell {node[1]}{numbers_text(node[2])} into {len(node[3])}\n")
            work.extend(list(node[3])[::-1])
    return "".join(lines)


def trees_lines(trees):
    return "".join([f"size {index + 1}\n" + tree_lines(tree) for index, tree in enumerate(trees)])


class OpenReader:
    """Reads classes, facts and trees by a parser of words."""

    def __init__(self, reader, parser):
        self.reader = reader
        self.parser = parser

    def table_and_trees(self):
        """All that stands behind the depth and the size."""
        classes, facts, trees = [], [], []
        kinds = ["class "] + (["fact "] if self.parser.predicate_places else [])
        while not self.reader.at_end():
            kind = self.reader.choose(kinds + [f"size {len(trees) + 1}\n"])
            if kind == "class ":
                classes.append(self.words())
            elif kind == "fact ":
                facts.append(self.fact())
                kinds = ["fact "]
            else:
                trees.append(self.tree())
                kinds = []
        return (classes, facts), trees

    def words(self):
        told = [self.parser.word()]
        while self.reader.choose([", ", "\n"]) == ", ":
            told.append(self.parser.word())
        return told

    def numbers(self, many):
        """So many numbers with a blank ahead of each."""
        told = []
        for _ in range(many):
            self.reader.expect(" ")
            told.append(self.reader.take_number())
        return told

    def fact(self):
        name = self.reader.choose(list(self.parser.predicate_places))
        numbers = self.numbers(self.parser.predicate_places[name])
        self.reader.expect("\n")
        return (name, numbers)

    def tree(self):
        """A tree; cells of which trees are still to come stand in a list, as trees may be deeper than calls."""
        begun = []
        while True:
            told, many = self.node()
            while told[0] == "clash" or len(told[3]) == many:
                if not begun:
                    return told
                begun[-1][0][3].append(told)
                told, many = begun.pop()
            begun.append((told, many))

    def node(self):
        """A node without its trees, and how many these are."""
        places = {**self.parser.function_places, **self.parser.predicate_places}
        if self.reader.choose((["cell "] if places else []) + ["clash "]) == "clash ":
            return self.clash(), 0
        name = self.reader.choose(list(places))
        row = self.numbers(places[name])
        self.reader.expect(" into ")
        many = self.reader.take_number()
        self.reader.expect("\n")
        return ("cell", name, row, []), many

    def clash(self):
        index = self.reader.take_number()
        giving = {}
        token = self.reader.choose([" by ", "\n"])
        while token != "\n":
            variable = self.reader.take_variable(list(giving))
            self.reader.expect(" = ")
            giving[variable] = self.reader.take_number()
            token = self.reader.choose([", ", "\n"])
        return ("clash", index, {variable: giving[variable] for variable in sorted(giving)})
