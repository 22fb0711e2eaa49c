"""Records read from text (points 133 to 135)."""

from throughline.errors import InvalidOctets, InvalidRecord
from throughline.host.packet import Packet
from throughline.net.records import Record
from throughline.wire.numbers import read_decimal
from throughline.wire.octets import from_hex

WORDS = ("sent", "delivered", "lost", "copied", "marked", "expired")
MOST_DIGITS = 15
# How many words a line has.
SIZE = 7


def record_lines(text):
    """Yields each line that is not left out, with its number."""
    for number, line in enumerate(text.split("\n"), start=1):
        if line != "" and line[0] != "#":
            yield number, line


def read_record(line, *, number=1):
    """Returns the record that is written as the line."""
    words = line.split(" ")
    if len(words) != SIZE or words[2] not in WORDS or words[5] not in ("m", "-"):
        raise InvalidRecord(number)
    numbers = [read_decimal(words[at], MOST_DIGITS) for at in (0, 1, 3, 4)]
    octets = _read_octets(words[6])
    if None in numbers or octets is None:
        raise InvalidRecord(number)
    tick, packet_number, sender, target = numbers
    return Record(tick, packet_number, words[2], Packet(sender, target, octets, marked=words[5] == "m"))


def read_records(text):
    """Returns the records of the text, in order."""
    return [read_record(line, number=number) for number, line in record_lines(text)]


def _read_octets(word):
    """Returns the octets that are written as the word, or None if there are none."""
    if word == "-":
        return []
    if word == "":
        return None
    try:
        return from_hex(word)
    except InvalidOctets:
        return None
