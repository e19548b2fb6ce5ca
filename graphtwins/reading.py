"""Reading octets up to the first one behind which nothing can make them right."""

from graphtwins.errors import CodeError
from graphtwins.values import GREATEST_INTEGER, LEAST_INTEGER, LONGEST_TEXT

# The octets ahead of values: they tell what kind of value follows.
NOTHING = 0
INTEGER = 1
TEXT = 2
OBJECT = 3

LETTERS = "abcdefghijklmnopqrstuvwxyz"
FIRST_CODE = 97
LAST_CODE = 122


class Reader:
    """Reads octets from the first one on; raises CodeError at the first one that is certainly wrong."""

    def __init__(self, octets):
        self.octets = octets
        self.place = 0

    def next_octet(self, least, greatest):
        """The next octet, which must be within bounds."""
        if self.place >= len(self.octets):
            raise CodeError(self.place)
        octet = self.octets[self.place]
        if octet < least or octet > greatest:
            raise CodeError(self.place)
        self.place += 1
        return octet

    def next_number(self, many, least, greatest):
        """The next number in so many octets, which must be within bounds."""
        number = 0
        for at in range(many):
            # The bounds of the number as far as it is read, whatever octets follow: only so
            # the first octet with which it leaves its bounds for certain is found.
            bits = 8 * (many - 1 - at)
            lowest = (least >> bits) - 256 * number
            highest = (greatest >> bits) - 256 * number
            number = 256 * number + self.next_octet(max(lowest, 0), min(highest, 255))
        return number

    def next_word(self, least, greatest, before):
        """The next word, its number of letters within bounds; unless it is empty, it must come behind another one."""
        many = self.next_octet(least, greatest)
        word = ""
        self._check_order(word, many, before)
        while len(word) < many:
            word = word + LETTERS[self.next_octet(FIRST_CODE, LAST_CODE) - FIRST_CODE]
            self._check_order(word, many, before)
        return word

    def next_plain(self, kind):
        """The next value of a kind, an integer or a text."""
        if kind == TEXT:
            return self.next_word(0, LONGEST_TEXT, "")
        return LEAST_INTEGER + self.next_number(3, 0, GREATEST_INTEGER - LEAST_INTEGER)

    def finish(self):
        """See that no octets are left over."""
        if self.place < len(self.octets):
            raise CodeError(self.place)

    def _check_order(self, begun, many, before):
        """See that a word of so many letters, as far as it is begun, can still come behind another one."""
        last = begun + "z" * (many - len(begun))
        if many > 0 and last <= before:
            raise CodeError(self.place - 1)
