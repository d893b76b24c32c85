"""The texts of words, atoms, sentences, literals and clauses."""


def pieces(part):
    """What the text of a word, an atom or a sentence that is no string is made of: strings, words and sentences."""
    head = part[0]
    if head == "not":
        return ["not ", part[1]]
    if head in ("and", "or", "then", "iff"):
        return ["(", part[1], " " + head + " ", part[2], ")"]
    if head in ("all", "some"):
        return [head + " ", part[1], ": ", part[2]]
    if head == "=":
        return [part[1], " = ", part[2]]
    if len(part) == 1:
        return [head]
    told = [head, "("]
    for word in part[1:]:
        told.extend([word, ", "])
    told[-1] = ")"
    return told


def written(thing):
    """The text of a word, an atom or a sentence; by a list of what is to do, as calls may not go so deep."""
    told = []
    work = [thing]
    while work:
        part = work.pop()
        if isinstance(part, str):
            told.append(part)
        else:
            work.extend(pieces(part)[::-1])
    return "".join(told)


def literal_text(literal):
    return written(literal[1]) if literal[0] else "not " + written(literal[1])


def clause_text(clause):
    if len(clause) == 0:
        return "false"
    return " or ".join([literal_text(literal) for literal in clause])
