"""The form of deeds (points 94 and 95)."""

from throughline.errors import InvalidDeed

# The deeds that name a host, and those that name a flight.
CALLS = ("connect", "listen", "unlisten", "accept", "write", "read", "finish", "abort", "release", "restart")
FLIGHT_DEEDS = ("deliver", "lose", "copy", "mark")
# How many items a deed has, its word included.
ITEMS = {
    "connect": 5,
    "listen": 4,
    "unlisten": 3,
    "accept": 3,
    "write": 4,
    "read": 4,
    "finish": 3,
    "abort": 3,
    "release": 3,
    "restart": 2,
    "tick": 1,
    "deliver": 2,
    "lose": 2,
    "copy": 2,
    "mark": 2,
}


def check_deed(deed):
    """Raises InvalidDeed if the tuple has not the form of a deed."""
    if len(deed) == 0:
        raise InvalidDeed("a deed without a word")
    if deed[0] not in ITEMS:
        raise InvalidDeed("a deed with an unknown word")
    if len(deed) != ITEMS[deed[0]]:
        raise InvalidDeed(f"{deed[0]} with {len(deed)} items")
