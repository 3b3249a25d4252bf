"""Records: plain data as lists of bytes, which are integers from 0 to 255 here, and back."""

from lenstree.errors import RecordError
from lenstree.values import FIRST_CODE, is_text_code

# The first byte of a packed form tells what it is.
NULL = 0
FALSE = 1
TRUE = 2
NUMBER = 3
NEGATIVE = 4
TEXT = 5
TUPLE = 6
LIST = 7
DICT = 8
NUMBER_BYTES = 4
LENGTH_BYTES = 2
# The characters from the first code on. The blank behind the first five stands for the one that no text may contain.
CHARACTERS = " !\"#$ &'()*+,-./0123456789:;<=>?@ABCDEFGHIJKLMNOPQRSTUVWXYZ[\\]^_`abcdefghijklmnopqrstuvwxyz{|}~"


def number_bytes(number, many):
    """Return the list of the bytes of an integer of at least 0, the highest first."""
    found = []
    rest = number
    for _ in range(many):
        found.append(rest & 255)
        rest = rest >> 8
    return list(reversed(found))


def bytes_number(numbers):
    """Return the integer whose bytes these are, the highest first."""
    result = 0
    for number in numbers:
        result = result * 256 + number
    return result


def packed_number(number):
    """Return the packed form of an integer."""
    if number < 0:
        return [NEGATIVE] + number_bytes(-number, NUMBER_BYTES)
    return [NUMBER] + number_bytes(number, NUMBER_BYTES)


def packed_text(text):
    """Return the packed form of a string."""
    return [TEXT] + number_bytes(len(text), LENGTH_BYTES) + [ord(character) for character in text]


def packed_items(first, items):
    """Return the packed form, with this first byte, of something that has these items."""
    found = [first] + number_bytes(len(items), LENGTH_BYTES)
    for item in items:
        found.extend(pack(item))
    return found


def packed_dict(table):
    """Return the packed form of a dict."""
    found = [DICT] + number_bytes(len(table), LENGTH_BYTES)
    numbers = sorted([key for key in table if isinstance(key, int)])
    texts = sorted([key for key in table if isinstance(key, str)])
    for key in numbers + texts:
        found.extend(pack(key))
        found.extend(pack(table[key]))
    return found


def pack(data):
    """Return the packed form of data, a list of bytes."""
    if data is None:
        return [NULL]
    # True and False are integers to Python, so they come first.
    if isinstance(data, bool):
        return [TRUE if data else FALSE]
    if isinstance(data, int):
        return packed_number(data)
    if isinstance(data, str):
        return packed_text(data)
    if isinstance(data, tuple):
        return packed_items(TUPLE, data)
    if isinstance(data, list):
        return packed_items(LIST, data)
    return packed_dict(data)


def read_number(numbers, at, many):
    """Return the integer that stands in so many bytes from an index on. Raise RecordError."""
    if at + many > len(numbers):
        raise RecordError(len(numbers))
    return bytes_number(numbers[at:at + many])


def read_negative(numbers, at):
    """Return the integer below 0 whose packed form begins at an index. Raise RecordError."""
    number = read_number(numbers, at + 1, NUMBER_BYTES)
    if number == 0:
        raise RecordError(at)
    return -number


def read_text(numbers, at):
    """Return the string whose packed form begins at an index, and the index behind it. Raise RecordError."""
    length = read_number(numbers, at + 1, LENGTH_BYTES)
    start = at + 1 + LENGTH_BYTES
    codes = numbers[start:start + length]
    # A wrong byte stands ahead of an end that is too early.
    for place, code in enumerate(codes):
        if not is_text_code(code):
            raise RecordError(start + place)
    if len(codes) < length:
        raise RecordError(len(numbers))
    return "".join([CHARACTERS[code - FIRST_CODE] for code in codes]), start + length


def read_items(numbers, at):
    """Return the list of the items of the tuple or list that begins at an index, and the index behind it."""
    many = read_number(numbers, at + 1, LENGTH_BYTES)
    place = at + 1 + LENGTH_BYTES
    items = []
    for _ in range(many):
        item, place = read_data(numbers, place)
        items.append(item)
    return items, place


def may_follow(key, before):
    """Tell whether data may be a key of a dict behind the key `before`, which is None for the first one."""
    if isinstance(key, bool) or not isinstance(key, (int, str)):
        return False
    if before is None:
        return True
    if isinstance(key, str) and isinstance(before, int):
        return True
    return isinstance(key, str) == isinstance(before, str) and key > before


def read_dict(numbers, at):
    """Return the dict whose packed form begins at an index, and the index behind it. Raise RecordError."""
    many = read_number(numbers, at + 1, LENGTH_BYTES)
    place = at + 1 + LENGTH_BYTES
    table = {}
    before = None
    for _ in range(many):
        start = place
        key, place = read_data(numbers, start)
        if not may_follow(key, before):
            raise RecordError(start)
        item, place = read_data(numbers, place)
        table[key] = item
        before = key
    return table, place


def read_data(numbers, at):
    """Return the data whose packed form begins at an index, and the index behind it. Raise RecordError."""
    if at >= len(numbers):
        raise RecordError(len(numbers))
    first = numbers[at]
    if first > DICT:
        raise RecordError(at)
    if first == NULL:
        return None, at + 1
    if first == FALSE or first == TRUE:
        return first == TRUE, at + 1
    if first == NUMBER:
        return read_number(numbers, at + 1, NUMBER_BYTES), at + 1 + NUMBER_BYTES
    if first == NEGATIVE:
        return read_negative(numbers, at), at + 1 + NUMBER_BYTES
    if first == TEXT:
        return read_text(numbers, at)
    if first == DICT:
        return read_dict(numbers, at)
    items, place = read_items(numbers, at)
    if first == TUPLE:
        return tuple(items), place
    return items, place


def unpack(numbers):
    """Return the data whose packed form the list of bytes is. Raise RecordError."""
    data, end = read_data(numbers, 0)
    if end < len(numbers):
        raise RecordError(end)
    return data
