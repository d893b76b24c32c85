"""Derivations and answers and their texts, by form alone."""

from eithershown.errors import BadPaper
from eithershown.paperforms import is_told_answer, is_told_derivation
from eithershown.parsing import Parser
from eithershown.reader import Reader, fault_of
from eithershown.rulelines import RowReader, row_line
from eithershown.signatures import check_names
from eithershown.treelines import OpenReader, table_lines, trees_lines
from eithershown.worldlines import WorldReader, world_lines


def rows_text(rows):
    return "".join([row_line(row) for row in rows])


def derivation_text(derivation):
    if not is_told_derivation(derivation):
        raise BadPaper(derivation)
    return rows_text(derivation)


def read_derivation(names, text):
    check_names(names)
    reader = Reader(text, False)
    return RowReader(reader, Parser(reader, names)).rows()


def derivation_text_fault(names, text):
    return fault_of(lambda: read_derivation(names, text))


def answer_text(answer):
    if not is_told_answer(answer):
        raise BadPaper(answer)
    if answer[0] == "follows":
        return f"follows {answer[1]}\n" + rows_text(answer[2])
    if answer[0] == "fails":
        return f"fails {answer[1]}\n" + world_lines(answer[2])
    return f"open {answer[1]} {answer[2]}\n" + table_lines(answer[3]) + trees_lines(answer[4])


def read_answer(names, text):
    check_names(names)
    reader = Reader(text, False)
    parser = Parser(reader, names)
    kind = reader.choose(["follows ", "fails ", "open "])
    number = reader.take_number()
    if kind == "open ":
        reader.expect(" ")
        size = reader.take_number()
        reader.expect("\n")
        table, trees = OpenReader(reader, parser).table_and_trees()
        return ("open", number, size, table, trees)
    reader.expect("\n")
    if kind == "follows ":
        return ("follows", number, RowReader(reader, parser).rows())
    return ("fails", number, WorldReader(reader, names).read())


def answer_fault(names, text):
    return fault_of(lambda: read_answer(names, text))
