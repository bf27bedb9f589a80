"""Texts in UTF-8: code points from bytes, and bytes from code points."""

from macromarkup.faults import BadBytes

# By the length of a sequence: what its first byte gives, and the least code point that needs this length.
FIRST_BITS = (0, 127, 31, 15, 7)
LEAST_CODES = (0, 0, 128, 2048, 65536)
GREATEST_CODE = 1114111


def decoded(data):
    """The list of the code points of a text in UTF-8; BadBytes if it isn't valid."""
    codes = []
    at = 0
    while at < len(data):
        length = sequence_length(data[at])
        codes.append(code_from(data[at:at + length], length))
        at += length
    return codes


def sequence_length(first):
    """How many bytes a sequence has by its first one."""
    if first < 128:
        return 1
    if 192 <= first < 224:
        return 2
    if 224 <= first < 240:
        return 3
    if 240 <= first < 248:
        return 4
    raise BadBytes()


def code_from(sequence, length):
    """The code point of one sequence, which can be cut off by the end of the text."""
    if len(sequence) < length:
        raise BadBytes()
    code = sequence[0] & FIRST_BITS[length]
    for byte in sequence[1:]:
        if not 128 <= byte < 192:
            raise BadBytes()
        code = code * 64 + byte - 128
    if code < LEAST_CODES[length] or not is_code_point(code):
        raise BadBytes()
    return code


def is_code_point(code):
    """Whether a text can contain the code point: it is none beyond U+10FFFF and no surrogate."""
    return code <= GREATEST_CODE and not 55296 <= code <= 57343


def encoded(codes):
    """The list of the bytes of a text in UTF-8."""
    data = []
    for code in codes:
        if code < 128:
            data.append(code)
        elif code < 2048:
            data.extend([192 + code // 64, 128 + code % 64])
        elif code < 65536:
            data.extend([224 + code // 4096, 128 + code // 64 % 64, 128 + code % 64])
        else:
            data.extend([240 + code // 262144, 128 + code // 4096 % 64, 128 + code // 64 % 64, 128 + code % 64])
    return data
