"""Rows of bytes: how parcels are written, sealed, and read back."""

from sameround.errors import BadRow, NoParcel, NoRow
from sameround.kinds import is_number_below

BYTES = 256
MOST_DEEP = 20
MOST_SIGNS = 20

# The sorts of parcels, by the byte that a row begins with.
FROM_0_ON = 3
BELOW_0 = 4
STRING = 5
TUPLE = 6
BARE = (None, False, True)

# The signs of strings from the blank on; the one numbered 37 is none, and stands between both.
FIRST_SIGN = 32
SIGNS_BELOW = " !\"#$"
NO_SIGN = 37
SIGNS_ABOVE = ("&'()*+,-./0123456789:;<=>?@ABCDEFGHIJKLMNOPQRSTUVWXYZ[\\]^_`"
               "abcdefghijklmnopqrstuvwxyz{|}~")
LAST_SIGN = 126

MARK_FACTOR = 1000003
MARKS = 2 ** 61 - 1
SEALS = 2 ** 32
SEAL_LENGTH = 4


def is_row(thing):
    """Whether a thing is a tuple of bytes."""
    return isinstance(thing, tuple) and all([is_number_below(BYTES, part) for part in thing])


def is_sign(number):
    """Whether a number is that of a sign of strings."""
    return FIRST_SIGN <= number <= LAST_SIGN and number != NO_SIGN


def sign_of(number):
    """The sign of strings with a number."""
    if number < NO_SIGN:
        return SIGNS_BELOW[number - FIRST_SIGN]
    return SIGNS_ABOVE[number - NO_SIGN - 1]


def is_string(thing):
    """Whether a thing is a string that is a parcel."""
    if not isinstance(thing, str) or not 1 <= len(thing) <= MOST_SIGNS:
        return False
    return all([is_sign(ord(sign)) for sign in thing])


def is_parcel_within(deep, thing):
    """Whether a thing is a parcel, of tuples nested at most so deep."""
    if isinstance(thing, tuple):
        return deep > 0 and all([is_parcel_within(deep - 1, part) for part in thing])
    return thing is None or isinstance(thing, int) or is_string(thing)


def is_parcel(thing):
    """Whether a thing is a parcel."""
    return is_parcel_within(MOST_DEEP, thing)


def write_whole(row, number):
    """Put the figures of a number to the base 128 behind a list of bytes."""
    while number >= 128:
        row.append(128 + number % 128)
        number = number // 128
    row.append(number)


def write_parcel(row, parcel):
    """Put the row of a parcel behind a list of bytes."""
    if parcel is None or parcel is False or parcel is True:
        row.append(BARE.index(parcel))
    elif isinstance(parcel, str):
        row.append(STRING)
        write_whole(row, len(parcel))
        row.extend([ord(sign) for sign in parcel])
    elif isinstance(parcel, tuple):
        row.append(TUPLE)
        write_whole(row, len(parcel))
        for part in parcel:
            write_parcel(row, part)
    elif parcel >= 0:
        row.append(FROM_0_ON)
        write_whole(row, parcel)
    else:
        row.append(BELOW_0)
        write_whole(row, -1 - parcel)


def row_of(parcel):
    """The row of a parcel."""
    if not is_parcel(parcel):
        raise NoParcel()
    row = []
    write_parcel(row, parcel)
    return tuple(row)


class RowReader:
    """A row that is read from the front; at is the place of the byte that is due."""

    def __init__(self, row):
        self.row = row
        self.at = 0

    def due_byte(self):
        """The byte that is due, which may lack."""
        if self.at == len(self.row):
            raise BadRow(self.at)
        return self.row[self.at]

    def read_whole(self):
        """The number whose figures stand here."""
        start = self.at
        while self.at < len(self.row) and self.row[self.at] >= 128:
            self.at += 1
        if self.at == len(self.row):
            raise BadRow(start)
        self.at += 1
        if self.row[self.at - 1] == 0 and self.at - start > 1:
            raise BadRow(start)
        number = 0
        for byte in reversed(self.row[start:self.at]):
            number = number * 128 + byte % 128
        return number

    def read_string(self):
        """The string whose length stands here."""
        start = self.at
        many = self.read_whole()
        if not 1 <= many <= MOST_SIGNS:
            raise BadRow(start)
        signs = []
        for _ in range(many):
            number = self.due_byte()
            if not is_sign(number):
                raise BadRow(self.at)
            signs.append(sign_of(number))
            self.at += 1
        return "".join(signs)

    def read_tuple(self, deep):
        """The tuple whose length stands here, of parcels of tuples nested at most so deep."""
        many = self.read_whole()
        parts = []
        while len(parts) < many:
            parts.append(self.read_parcel(deep))
        return tuple(parts)

    def read_parcel(self, deep):
        """The parcel that stands here, of tuples nested at most so deep."""
        sort = self.due_byte()
        if sort > TUPLE or sort == TUPLE and deep == 0:
            raise BadRow(self.at)
        self.at += 1
        if sort == FROM_0_ON:
            return self.read_whole()
        if sort == BELOW_0:
            return -1 - self.read_whole()
        if sort == STRING:
            return self.read_string()
        if sort == TUPLE:
            return self.read_tuple(deep - 1)
        return BARE[sort]


def read_whole_row(row):
    """The parcel of which a tuple of bytes is the row."""
    reader = RowReader(row)
    parcel = reader.read_parcel(MOST_DEEP)
    if reader.at < len(row):
        raise BadRow(reader.at)
    return parcel


def parcel_of(row):
    """The parcel of which this is the row."""
    if not is_row(row):
        raise NoRow()
    return read_whole_row(row)


def mark_of(row):
    """The mark of a tuple of bytes."""
    number = 1
    for byte in row:
        number = (number * MARK_FACTOR + byte + 1) % MARKS
    return number


def mark(row):
    """The mark of a row, a number that is hardly that of another one."""
    if not is_row(row):
        raise NoRow()
    return mark_of(row)


def seal_of(row):
    """The four bytes with which a tuple of bytes is sealed."""
    left = mark_of(row) % SEALS
    seal = []
    for _ in range(SEAL_LENGTH):
        seal.append(left % BYTES)
        left = left // BYTES
    return tuple(seal)


def sealed(parcel):
    """The row of a parcel, and its seal behind it."""
    row = row_of(parcel)
    return row + seal_of(row)


def unsealed(row):
    """The tuple of the parcel of which a row is sealed, of none for any other value."""
    if not is_row(row):
        return ()
    inner = row[:-SEAL_LENGTH]
    if row[-SEAL_LENGTH:] != seal_of(inner):
        return ()
    try:
        return (read_whole_row(inner),)
    except BadRow:
        return ()
