"""The functions of the program: each takes lists of bytes and gives back a list of whole numbers."""

from macromarkup.expansion import expanded
from macromarkup.faults import BadBytes, TextFault, TooDeep
from macromarkup.normal import normalize
from macromarkup.notation import notation_of
from macromarkup.scan import scanned
from macromarkup.showing import text_of
from macromarkup.tree import tree_of
from macromarkup.utf import decoded, encoded


def check(text):
    """0 and the number of blocks of the document, or the kind and the position of the error."""
    try:
        document = document_of(text)
    except BadBytes:
        return [-24]
    except TextFault as fault:
        return [fault.kind, fault.position]
    return [0, len(document.children)]


def read(text):
    """The length and the bytes of the canonical notation of the document."""
    try:
        codes = notation_of(document_of(text))
    except BadBytes:
        return [-24]
    except TextFault:
        return [-20]
    except TooDeep:
        return [-28]
    return with_length(encoded(codes))


def tokens(text):
    """The number of tokens, and the position and the kind of each one."""
    try:
        found = scanned(decoded(text))
    except BadBytes:
        return [-24]
    except TextFault:
        return [-20]
    answer = [len(found)]
    for token in found:
        answer.extend([token.position, token.kind])
    return answer


def expand(text):
    """The length and the bytes of the text of the expanded tokens."""
    try:
        codes = text_of(expanded(scanned(decoded(text))).done)
    except BadBytes:
        return [-24]
    except TextFault:
        return [-20]
    return with_length(encoded(codes))


def document_of(text):
    """The document of a text in normal form."""
    document = tree_of(expanded(scanned(decoded(text))).done)
    normalize(document)
    return document


def with_length(data):
    return [len(data)] + data
