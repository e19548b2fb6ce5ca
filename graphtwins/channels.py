"""Channels: rows of messages under way, with every fault."""

from graphtwins.errors import NothingThere


class Channel:
    """A row of messages under way, each a list of octets, the oldest at the place 0."""

    def __init__(self):
        self.under_way = []

    def put(self, octets):
        """Put a message behind all others; return how many are under way."""
        self.under_way.append(list(octets))
        return len(self.under_way)

    def lose(self, place):
        """Lose a message."""
        self._check_there(place)
        del self.under_way[place]

    def double(self, place):
        """Put a copy of a message behind all others."""
        self._check_there(place)
        self.put(self.under_way[place])

    def exchange(self, place, other):
        """Exchange a message with another one."""
        self._check_there(place)
        self._check_there(other)
        message = self.under_way[place]
        self.under_way[place] = self.under_way[other]
        self.under_way[other] = message

    def damage(self, place, spot, octet):
        """Put another octet at a spot of a message; return whether there is this spot and the octet is another one."""
        self._check_there(place)
        message = self.under_way[place]
        if spot < 0 or spot >= len(message) or message[spot] == octet:
            return False
        message[spot] = octet
        return True

    def cut(self, place, length):
        """Cut a message to a length."""
        self._check_there(place)
        del self.under_way[place][length:]

    def take(self, place):
        """Take a message out; return its octets."""
        self._check_there(place)
        return self.under_way.pop(place)

    def _check_there(self, place):
        # A place below 0 would otherwise count from the end of the row.
        if place < 0 or place >= len(self.under_way):
            raise NothingThere(place)
