"""The lines of derivations: each row's rule, a colon, a blank and its clause."""

from eithershown.exchange import frozen_substitution
from eithershown.kinds import CAPITALS
from eithershown.rowforms import PREMISES, SPOTS
from eithershown.worldlines import numbers_text
from eithershown.writing import clause_text, literal_text, written

# How lines begin.
OPENINGS = (
    "given ", "instance ", "resolve ", "replace ", "same ", "alike of ", "either of ", "turned of ", "chained of ",
    "parts of ", "holds of ",
)
# What stands behind each premise.
ENDS = {
    "instance": (": ",), "resolve": (", ", " on "), "replace": (", ", " put "), "same": (" of ",),
}


def pairs_text(pairs):
    """What stands behind a number for the pairs of a dict that tells texts."""
    if len(pairs) == 0:
        return ""
    return " by " + ", ".join([f"{variable} = {pairs[variable]}" for variable in sorted(pairs)])


def premise_text(premise, substitution):
    words = frozen_substitution(substitution)
    return f"{premise}" + pairs_text({variable: written(words[variable]) for variable in words})


def premises_text(row):
    if row[0] == "given":
        return f"{row[1][0]}"
    return ", ".join([premise_text(premise, words) for premise, words in zip(row[1], row[2])])


def spot_text(rule, spot):
    if rule == "replace":
        left, right, literal, place = spot
        return f" put {written(right)} for {written(left)} in {literal_text(literal)} at{numbers_text(place)}"
    if rule == "resolve":
        return " on " + written(spot)
    if len(SPOTS[rule]) == 0:
        return ""
    parts = [spot] if len(SPOTS[rule]) == 1 else spot
    return " of " + ", ".join([written(part) for part in parts])


def row_line(row):
    """The line of a row of right form."""
    rule = row[0]
    ahead = " " + premises_text(row) if PREMISES[rule] > 0 else ""
    return f"{rule}{ahead}{spot_text(rule, row[3])}: {clause_text(row[4])}\n"


class RowReader:
    """Reads rows of derivations by a parser of words."""

    def __init__(self, reader, parser):
        self.reader = reader
        self.parser = parser

    def rows(self):
        """All rows up to the end."""
        told = []
        while not self.reader.at_end():
            told.append(self.row())
        return told

    def row(self):
        opening = self.reader.choose(list(OPENINGS))
        rule = opening.split(" ")[0]
        premises, substitutions = self.premises(rule)
        spot = self.spot(rule)
        return (rule, premises, substitutions, spot, self.parser.clause())

    def premises(self, rule):
        """The premises and their substitutions, and the signs behind them."""
        if PREMISES[rule] == 0:
            return [], []
        if rule == "given":
            number = self.reader.take_number()
            self.reader.expect(": ")
            return [number], []
        told = [self.premise(end) for end in ENDS[rule]]
        return [pair[0] for pair in told], [pair[1] for pair in told]

    def premise(self, end):
        """A premise, its substitution, and the signs that end it."""
        number = self.reader.take_number()
        words = {}
        token = self.reader.choose([" by ", end])
        while token != end or (len(words) > 0 and end == ", " and self.reader.at_one_of(CAPITALS)):
            variable = self.reader.take_variable(list(words))
            self.reader.expect(" = ")
            words[variable] = self.parser.word()
            token = self.reader.choose([", ", end])
        return number, {variable: words[variable] for variable in sorted(words)}

    def spot(self, rule):
        """The spot, and the signs behind it."""
        if rule == "replace":
            return self.replaced_spot()
        if len(SPOTS[rule]) == 0:
            return None
        parts = []
        for kind in SPOTS[rule]:
            if len(parts) > 0:
                self.reader.expect(", ")
            parts.append(self.parser.run(kind, None))
        self.reader.expect(": ")
        return parts[0] if len(parts) == 1 else tuple(parts)

    def replaced_spot(self):
        right = self.parser.word()
        self.reader.expect(" for ")
        left = self.parser.word()
        self.reader.expect(" in ")
        literal = self.parser.literal()
        self.reader.expect(" at ")
        place = [self.reader.take_number()]
        while self.reader.choose([" ", ": "]) == " ":
            place.append(self.reader.take_number())
        return (left, right, literal, place)
