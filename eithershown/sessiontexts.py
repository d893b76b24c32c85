"""Sessions and their texts."""

from eithershown.errors import BadSession
from eithershown.parsing import Parser
from eithershown.questions import answer_of
from eithershown.reader import Reader
from eithershown.sessions import Session, session_of
from eithershown.states import State
from eithershown.theorytexts import line_start, read_theory_lines, theory_text
from eithershown.writing import written

STARTS = ("watch ", "hold ")


def question_text(question):
    if question[0] == "alike":
        return f"alike {question[1]} {question[2]}"
    numbers = "".join([f" {number}" for number in question[2:]])
    return f"{question[0]}{numbers}: {written(question[1])}"


def write_session(session):
    if not isinstance(session, Session):
        raise BadSession(session)
    lines = [theory_text(session.now())]
    for question, _, is_held in session.watched():
        start = "hold " if is_held else "watch "
        lines.append(f"{start}{question_text(question)}\n")
    return "".join(lines)


def read_question(reader, theory):
    """The question that stands here, ahead of its line feed."""
    labels = [label for label, _ in theory.axioms()]
    kind = reader.choose(["ends ", "least "] + (["alike "] if len(labels) > 0 else []))
    if kind == "alike ":
        one = reader.choose(labels)
        reader.expect(" ")
        return ("alike", one, reader.choose(labels))
    numbers = [reader.take_number()]
    if kind == "ends ":
        reader.expect(" ")
        # Sizes are from 1 on.
        if reader.at_one_of("0"):
            reader.fail(reader.at)
        numbers.append(reader.take_number())
    reader.expect(": ")
    return (kind.strip(), Parser(reader, theory.names()).sentence()) + tuple(numbers)


def read_session(text):
    reader = Reader(text, False)
    theory, start = read_theory_lines(reader, list(STARTS), True)
    questions, held = [], []
    while start in STARTS:
        question = read_question(reader, theory)
        if question in questions:
            reader.fail(reader.at)
        reader.expect("\n")
        questions.append(question)
        held.append(start == "hold ")
        start = line_start(reader, list(STARTS), True)
    rows = [(question, answer_of(theory, question), is_held) for question, is_held in zip(questions, held)]
    return session_of([State(theory, rows)], [], 0)
