"""The functions of the program: each takes lists of bytes and gives back a list of whole numbers."""

from macromarkup.documents import document_from
from macromarkup.expansion import expanded
from macromarkup.faults import BadBytes, BadNotation, NotExpressible, TextFault, TooDeep
from macromarkup.inventory import counters_of, macros_of
from macromarkup.lost import losses_of
from macromarkup.normal import normalize
from macromarkup.notation import check_depth, notation_of
from macromarkup.numerals import GREATEST_ROMAN, roman_text
from macromarkup.plain import plain_blocks
from macromarkup.scan import scanned
from macromarkup.showing import text_of
from macromarkup.signs import codes_of
from macromarkup.tree import tree_of
from macromarkup.utf import decoded, encoded
from macromarkup.writing import written


def check(text):
    """0 and the number of blocks of the document, or the kind and the position of the error."""
    try:
        document = document_of(text)
    except BadBytes:
        return [-24]
    except TextFault as fault:
        return [fault.kind, fault.position]
    return [0, len(document.children)]


def read(text):
    """The length and the bytes of the canonical notation of the document."""
    try:
        codes = notation_of(shallow_document_of(text))
    except BadBytes:
        return [-24]
    except TextFault:
        return [-20]
    except TooDeep:
        return [-28]
    return with_length(encoded(codes))


def tokens(text):
    """The number of tokens, and the position and the kind of each one."""
    try:
        found = scanned(decoded(text))
    except BadBytes:
        return [-24]
    except TextFault:
        return [-20]
    answer = [len(found)]
    for token in found:
        answer.extend([token.position, token.kind])
    return answer


def expand(text):
    """The length and the bytes of the text of the expanded tokens."""
    try:
        codes = text_of(expansion_of(text).done)
    except BadBytes:
        return [-24]
    except TextFault:
        return [-20]
    return with_length(encoded(codes))


def macros(text):
    """The length and the bytes of an expression for each macro and each environment that is defined at the end."""
    try:
        codes = macros_of(expansion_of(text))
    except BadBytes:
        return [-24]
    except TextFault:
        return [-20]
    return with_length(encoded(codes))


def counters(text):
    """The length and the bytes of an expression for each counter with its value at the end."""
    try:
        codes = counters_of(expansion_of(text))
    except BadBytes:
        return [-24]
    except TextFault:
        return [-20]
    return with_length(encoded(codes))


def write(tree):
    """The length and the bytes of the text of the document."""
    try:
        codes = written(document_in(tree))
    except BadNotation:
        return [-20]
    except NotExpressible:
        return [-33]
    return with_length(encoded(codes))


def losses(tree):
    """The number of the losses of the document, and their kinds."""
    try:
        kinds = losses_of(document_in(tree))
    except BadNotation:
        return [-20]
    return [len(kinds)] + kinds


def format_of(text):
    """The length and the bytes of the text of the document of a text."""
    try:
        codes = written(shallow_document_of(text))
    except BadBytes:
        return [-24]
    except TextFault:
        return [-20]
    except TooDeep:
        return [-28]
    except NotExpressible:
        return [-33]
    return with_length(encoded(codes))


def plain_text(text):
    """The length and the bytes of the plain text of the document."""
    try:
        codes = plain_blocks(shallow_document_of(text).children)
    except BadBytes:
        return [-24]
    except TextFault:
        return [-20]
    except TooDeep:
        return [-28]
    return with_length(encoded(codes))


def is_same(first, second):
    """1 if both texts have the same document, otherwise 0."""
    try:
        # The first text is done with before the second one is looked at.
        codes = notation_of(shallow_document_of(first))
        other_codes = notation_of(shallow_document_of(second))
    except BadBytes:
        return [-24]
    except TextFault:
        return [-20]
    except TooDeep:
        return [-28]
    if codes == other_codes:
        return [1]
    return [0]


def roman(value):
    """The length and the bytes of a Roman number in lowercase letters."""
    if not 1 <= value <= GREATEST_ROMAN:
        return [-22]
    return with_length(codes_of(roman_text(value)))


def expansion_of(text):
    """The state at the end of the expansion of a text."""
    return expanded(scanned(decoded(text)))


def document_of(text):
    """The document of a text in normal form."""
    document = tree_of(expansion_of(text).done)
    normalize(document)
    return document


def shallow_document_of(text):
    """The document of a text if its notation isn't nested too deeply."""
    document = document_of(text)
    check_depth(document)
    return document


def document_in(tree):
    """The document of a notation in normal form."""
    document = document_from(tree)
    normalize(document)
    return document


def with_length(data):
    return [len(data)] + data
