"""Records written as text (points 131 and 132)."""

from throughline.wire.octets import to_hex


def write_record(record):
    """Returns the line of the record, without a newline."""
    packet = record.packet
    mark = "m" if packet.marked else "-"
    octets = to_hex(packet.octets) if len(packet.octets) > 0 else "-"
    return f"{record.tick} {record.number} {record.word} {packet.sender} {packet.target} {mark} {octets}"


def write_records(records):
    """Returns the text of the records: a line for each of them."""
    return "".join([write_record(record) + "\n" for record in records])
