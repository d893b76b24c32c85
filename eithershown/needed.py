"""What the last row of a derivation hangs on."""

from eithershown.checking import check_derivation
from eithershown.rowforms import told_row


def rows_needed(derivation):
    """The ascending indexes of the rows that the last one hangs on, its own too."""
    needed = {len(derivation) - 1: True} if len(derivation) > 0 else {}
    for index in range(len(derivation) - 1, -1, -1):
        row = derivation[index]
        if index in needed and row[0] != "given":
            needed.update({premise: True for premise in row[1]})
    return sorted(needed)


def rows_shortened(derivation):
    needed = rows_needed(derivation)
    behind = {index: at for at, index in enumerate(needed)}
    told = []
    for index in needed:
        row = derivation[index]
        told.append(told_row(row, row[1] if row[0] == "given" else [behind[premise] for premise in row[1]]))
    return told


def clauses_needed(derivation):
    given = [derivation[index][1][0] for index in rows_needed(derivation) if derivation[index][0] == "given"]
    return sorted(set(given))


def needed_rows(clauses, derivation):
    check_derivation(clauses, derivation)
    return rows_needed(derivation)


def shortened(clauses, derivation):
    check_derivation(clauses, derivation)
    return rows_shortened(derivation)


def needed_clauses(clauses, derivation):
    check_derivation(clauses, derivation)
    return clauses_needed(derivation)
