"""The checksum of octets between two addresses (points 11 and 12)."""

MODULUS = 65535
PROTOCOL = 6


def octet_sum(sender, target, octets):
    """Returns the sum of the octets between the addresses."""
    words = 256 * sum(octets[::2]) + sum(octets[1::2])
    return sender + target + PROTOCOL + len(octets) + words


def is_intact(sender, target, octets):
    """Returns whether the octets are intact between the addresses."""
    return octet_sum(sender, target, octets) % MODULUS == 0


def checksum(sender, target, octets):
    """Returns what must be added to the sum of the octets to make it divisible by the modulus."""
    return -octet_sum(sender, target, octets) % MODULUS
