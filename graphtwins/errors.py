"""The errors of the package."""


class GraphtwinsError(ValueError):
    """What all errors of the package are."""


class CodeError(GraphtwinsError):
    """Octets are wrong, for certain from a place on."""

    def __init__(self, place):
        GraphtwinsError.__init__(self, f"the octets are wrong at the place {place}")
        self.place = place


class NothingThere(GraphtwinsError):
    """At a place of a channel nothing is under way."""

    def __init__(self, place):
        GraphtwinsError.__init__(self, f"nothing is under way at the place {place}")
        self.place = place


class LineError(GraphtwinsError):
    """A line of a text is wrong."""

    def __init__(self, line):
        GraphtwinsError.__init__(self, f"the line {line} is wrong")
        self.line = line


class NoSuchObject(GraphtwinsError):
    """An object is not known."""

    def __init__(self, name):
        GraphtwinsError.__init__(self, f"the object {name} is not known")
        self.name = name


class NotHere(GraphtwinsError):
    """An object is not here."""

    def __init__(self, name):
        GraphtwinsError.__init__(self, f"the object {name} is not here")
        self.name = name


class BadPeer(GraphtwinsError):
    """A number is not that of a peer."""

    def __init__(self, peer):
        GraphtwinsError.__init__(self, f"there is no peer {peer}")
        self.peer = peer


class NoSuchMessage(GraphtwinsError):
    """A message is not there."""

    def __init__(self, sender, number):
        GraphtwinsError.__init__(self, f"the message {number} of the peer {sender} is not there")
        self.sender = sender
        self.number = number


class PowerCut(GraphtwinsError):
    """A device has lost its power behind so many octets."""

    def __init__(self, written):
        GraphtwinsError.__init__(self, f"the power went behind {written} octets")
        self.written = written


class NotTogether(GraphtwinsError):
    """Replicas have unlike messages, or pending changes."""

    def __init__(self):
        GraphtwinsError.__init__(self, "the replicas are not together")


class ShutError(GraphtwinsError):
    """A journaled replica has lost its power earlier."""

    def __init__(self):
        GraphtwinsError.__init__(self, "the journaled replica is shut")
