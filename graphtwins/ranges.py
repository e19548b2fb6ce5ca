"""Ranges: which messages replicas have, and what they lack of each other's."""

from graphtwins.values import GREATEST_PEER


def ranges_of(numbers):
    """The ranges (first, last) of some numbers, ascending."""
    ranges = []
    for number in sorted(set(numbers)):
        if ranges and ranges[-1][1] + 1 == number:
            ranges[-1] = (ranges[-1][0], number)
        else:
            ranges.append((number, number))
    return ranges


def numbers_of(ranges):
    """The numbers in some ranges, ascending."""
    numbers = []
    for first, last in ranges:
        numbers.extend(list(range(first, last + 1)))
    return sorted(set(numbers))


def told(replica):
    """For each peer the ranges of the numbers of its messages that a replica has."""
    return [
        ranges_of([number for sender, number in replica.messages if sender == peer])
        for peer in range(GREATEST_PEER + 1)
    ]


def lacking(mine, theirs):
    """The messages (sender, number) that the other replica told and this one did not, ascending."""
    lacks = []
    for sender, ranges in enumerate(theirs):
        lacks.extend([(sender, number) for number in _numbers_without(ranges, mine[sender])])
    return lacks


def answer(replica, theirs):
    """The octets of the messages of a replica that another one lacks, by what that one told."""
    return [replica.copy_of(sender, number) for sender, number in lacking(theirs, told(replica))]


def bring(replica, other):
    """Bring a replica what it lacks of another one's messages; return how many that were."""
    lacks = lacking(told(replica), told(other))
    for sender, number in lacks:
        replica.accept(sender, number, other.messages[(sender, number)])
    return len(lacks)


def _numbers_without(ranges, others):
    """The numbers in some ranges that are not in others, ascending."""
    # By the bounds of the ranges: what both have can be much more than what is lacking.
    numbers = []
    at = 0
    for first, last in ranges:
        begin = first
        while at < len(others) and others[at][1] < last:
            numbers.extend(list(range(begin, others[at][0])))
            begin = max(begin, others[at][1] + 1)
            at += 1
        end = last
        if at < len(others):
            # This one goes on up to the last number, or beyond it.
            end = min(last, others[at][0] - 1)
        numbers.extend(list(range(begin, end + 1)))
    return numbers
