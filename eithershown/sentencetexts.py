"""Closed sentences and their texts."""

from eithershown.errors import BadSentence, BadText
from eithershown.fitting import is_any_sentence
from eithershown.parsing import Parser
from eithershown.reader import Reader, fault_of
from eithershown.signatures import check_names
from eithershown.writing import written


def sentence_text(sentence):
    if not is_any_sentence(sentence):
        raise BadSentence(sentence)
    return written(sentence)


def read_whole(names, reader):
    sentence = Parser(reader, names).sentence()
    reader.finish()
    return sentence


def read_sentence(names, text):
    check_names(names)
    return read_whole(names, Reader(text, False))


def sentence_fault(names, text):
    return fault_of(lambda: read_sentence(names, text))


def sentence_goes_on(names, text):
    """A text of a sentence that begins with this one: where it ends too early the reader grows it."""
    check_names(names)
    if not isinstance(text, str):
        return None
    reader = Reader(text, True)
    try:
        read_whole(names, reader)
    except BadText:
        return None
    return reader.text
