"""The journal: records in frames, one behind the other in an area of a disk."""

from lenstree.records import bytes_number, number_bytes, pack, unpack

HEAD_BYTES = 4


def frame(record):
    """Return the bytes of the frame of a record."""
    packed = pack(record)
    return number_bytes(len(packed), HEAD_BYTES) + packed


def records_of(numbers):
    """Return the list of the records of the frames of an area; a last frame that is not complete is ignored."""
    found = []
    start = HEAD_BYTES
    while start <= len(numbers):
        end = start + bytes_number(numbers[start - HEAD_BYTES:start])
        if end > len(numbers):
            return found
        found.append(unpack(numbers[start:end]))
        start = end + HEAD_BYTES
    return found
