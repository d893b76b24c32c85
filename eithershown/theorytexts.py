"""Theories and problems and their texts."""

from eithershown.parsing import Parser
from eithershown.reader import Reader, fault_of
from eithershown.signatures import Names
from eithershown.theories import Problem, Theory, check_problem, check_theory
from eithershown.writing import written

ARITIES = ("0", "1", "2", "3", "4", "5", "6")


def theory_text(theory):
    check_theory(theory)
    lines = [f"function {name} {arity}\n" for name, arity in theory.names().functions()]
    lines.extend([f"predicate {name} {arity}\n" for name, arity in theory.names().predicates()])
    lines.extend([f"axiom {name}: {written(sentence)}\n" for name, sentence in theory.axioms()])
    return "".join(lines)


def problem_text(problem):
    check_problem(problem)
    return theory_text(problem.theory()) + f"goal: {written(problem.goal())}\n"


def line_start(reader, options, may_end):
    """What the next line begins with, "" where there is none and none is needed."""
    return "" if may_end and reader.at_end() else reader.choose(options)


def read_declared(reader, ends, may_end):
    """The names of the lines ahead of axioms, and what the line behind them begins with."""
    functions, predicates = [], []
    options = ["function ", "predicate ", "axiom "] + ends
    start = line_start(reader, options, may_end)
    while start in ("function ", "predicate "):
        name = reader.take_name([pair[0] for pair in functions + predicates])
        reader.expect(" ")
        arity = int(reader.choose(list(ARITIES)))
        reader.expect("\n")
        if start == "function ":
            functions.append((name, arity))
        else:
            predicates.append((name, arity))
        start = line_start(reader, options, may_end)
    return Names(functions, predicates), start


def read_theory_lines(reader, ends, may_end):
    """The theory of the lines that stand here, and what the line behind them begins with."""
    names, start = read_declared(reader, ends, may_end)
    axioms = []
    while start == "axiom ":
        name = reader.take_name([axiom[0] for axiom in axioms])
        reader.expect(": ")
        axioms.append((name, Parser(reader, names).sentence()))
        reader.expect("\n")
        start = line_start(reader, ["axiom "] + ends, may_end)
    return Theory(names, axioms), start


def read_theory(text):
    return read_theory_lines(Reader(text, False), [], True)[0]


def theory_fault(text):
    return fault_of(lambda: read_theory(text))


def read_problem(text):
    reader = Reader(text, False)
    theory = read_theory_lines(reader, ["goal: "], False)[0]
    goal = Parser(reader, theory.names()).sentence()
    reader.expect("\n")
    reader.finish()
    return Problem(theory, goal)


def problem_fault(text):
    return fault_of(lambda: read_problem(text))
