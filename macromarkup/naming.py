"""Arguments of the tree that name something: identifiers, lists of labels, columns and targets."""

from macromarkup.arguments import plain_codes
from macromarkup.faults import INVALID, TextFault
from macromarkup.lexis import CLOSING, OPENING, is_command, sign_code
from macromarkup.signs import BACKSLASH, COMMA, is_label, trimmed

ALIGNMENTS = {"n": "none", "l": "left", "c": "center", "r": "right"}


def identifier_of(tokens, command):
    codes = plain_codes(tokens, command)
    if codes and not is_label(codes):
        raise TextFault(INVALID, command.position)
    return codes


def labels_of(tokens, command):
    """The labels of a list, which can be empty."""
    codes = plain_codes(tokens, command)
    if not codes:
        return ()
    labels = []
    for part in split_at_commas(codes):
        label = trimmed(part)
        if not is_label(label):
            raise TextFault(INVALID, command.position)
        labels.append(tuple(label))
    return tuple(labels)


def split_at_commas(codes):
    parts = [[]]
    for code in codes:
        if code == COMMA:
            parts.append([])
        else:
            parts[-1].append(code)
    return parts


def keys_of(tokens, command):
    """The labels of a list that isn't empty."""
    keys = labels_of(tokens, command)
    if not keys:
        raise TextFault(INVALID, command.position)
    return keys


def alignments_of(tokens, command):
    """The alignments of one or more columns."""
    codes = plain_codes(tokens, command)
    alignments = []
    for code in codes:
        alignments.extend([ALIGNMENTS[letter] for letter in ALIGNMENTS if ord(letter) == code])
    if not codes or len(alignments) != len(codes):
        raise TextFault(INVALID, command.position)
    return tuple(alignments)


def target_of(tokens, command):
    """The code points of a target."""
    codes = []
    for token in tokens:
        code = sign_code(token)
        if code is not None:
            codes.append(code)
        elif is_command(token, "backslash"):
            codes.append(BACKSLASH)
        elif token.kind not in (OPENING, CLOSING):
            raise TextFault(INVALID, command.position)
    return tuple(codes)
