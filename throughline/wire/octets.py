"""Octets, as numbers and as text (points 7 and 8)."""

from throughline.errors import InvalidOctets

HEX_DIGITS = "0123456789abcdef"


def write_number(number, size):
    """Returns the octets of the number, most significant octet first."""
    return [(number >> (8 * place)) & 255 for place in reversed(range(size))]


def read_number(octets):
    """Returns the number that the octets are read as."""
    number = 0
    for octet in octets:
        number = 256 * number + octet
    return number


def to_hex(octets):
    """Returns the text of the octets."""
    return "".join([f"{octet:02x}" for octet in octets])


def from_hex(text):
    """Returns the octets of a text, or raises InvalidOctets."""
    if len(text) % 2 != 0:
        raise InvalidOctets("an odd number of characters")
    # int() also takes signs, blanks, underscores and the digits of other scripts, so it is not asked about them.
    if any([digit not in HEX_DIGITS for digit in text]):
        raise InvalidOctets("a character other than 0 to 9 and a to f")
    return [int(text[at:at + 2], 16) for at in range(0, len(text), 2)]
