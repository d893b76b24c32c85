"""Audits of answers' texts, by the problems' texts alone."""

from eithershown.answers import answer_why
from eithershown.asking import check_size
from eithershown.clauseforms import problem_form
from eithershown.groundwords import check_depth
from eithershown.papertexts import answer_fault, read_answer
from eithershown.theorytexts import problem_fault, read_problem


def axiom_line(problem, index):
    """The line of a problem's text on which the axiom with an index stands; the goal's stands behind all."""
    names = problem.theory().names()
    return len(names.functions()) + len(names.predicates()) + index + 1


def wrong_line(problem, text, why):
    """Where what answer_why tells of an answer's text shows: which text, line, sign and word."""
    lines = text.splitlines()
    labels = [label for label, _ in problem.theory().axioms()]
    if why[0] == "row":
        return ("answer", why[1] + 2, 1, why[2])
    if why[0] == "last" or why[0] == "trees":
        return ("answer", len(lines) + 1, 1, why[0])
    if why[0] == "table":
        return ("answer", 2, 1, "table")
    if why[0] == "tree":
        return ("answer", lines.index(f"size {why[1]}") + 1, 1, "tree")
    if why[0] == "axiom":
        return ("problem", axiom_line(problem, labels.index(why[1])), 1, "axiom")
    if why[0] == "goal":
        return ("problem", axiom_line(problem, len(labels)), 1, "goal")
    return ("answer", 1, 1, why[0])


def audit(problem_text, answer_text, depth, size):
    check_depth(depth)
    check_size(size)
    fault = problem_fault(problem_text)
    if fault is not None:
        return ("problem",) + fault + ("form",)
    problem = read_problem(problem_text)
    names = problem.theory().names()
    if not isinstance(answer_text, str) or not answer_text.startswith("fails"):
        names = problem_form(problem).names()
    fault = answer_fault(names, answer_text)
    if fault is not None:
        return ("answer",) + fault + ("form",)
    why = answer_why(problem, depth, size, read_answer(names, answer_text))
    return None if why is None else wrong_line(problem, answer_text, why)
