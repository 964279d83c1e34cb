"""Chains: how cuts behind one another part bodies of any size."""

from roadsizes.checks import is_integer, is_within
from roadsizes.errors import BadChain, NoBoundary, NoPiece

GREATEST_CUT = 1000


class Chain:
    """A chain, which never changes: cuts (a tuple)."""

    def __init__(self, cuts):
        if not _are_cuts(cuts):
            raise BadChain(cuts)
        self.cuts = tuple(cuts)
        self._counts = _piece_counts(self.cuts)

    def __contains__(self, place):
        return is_integer(place) and place > 0 and self.digits(place)[-1] == 0

    def __getitem__(self, at):
        if not is_integer(at) or at < 1 or len(self.cuts) == 0:
            raise NoBoundary(at)
        return self._boundary(at)

    def __iter__(self):
        raise TypeError("a chain is not iterated over; its boundaries have no end")

    def __eq__(self, other):
        return isinstance(other, Chain) and self.cuts == other.cuts

    def __add__(self, other):
        """The chain by which the other one parts what this one has parted."""
        least = min(self.cuts, default=GREATEST_CUT + 1)
        return Chain(self.cuts + tuple([cut for cut in other.cuts if cut < least]))

    def pieces(self, body):
        """The number of pieces of a body."""
        return _pieces(body, self.cuts, self._counts)

    def digits(self, place):
        """The digits of a place, followed by the rest."""
        told = []
        rest = place
        for cut in self.cuts:
            told.append(rest // cut)
            rest = rest % cut
        return (*told, rest)

    def stretch(self, body, number):
        """The stretch of the piece of a body with a number, from 1 on."""
        pieces = self.pieces(body)
        if not is_within(number, 1, pieces):
            raise NoPiece(number)
        end = body if number == pieces else self._boundary(number)
        return end - self._boundary(number - 1)

    def parted(self, body):
        """The stretches of all pieces of a body, one after another."""
        start = 0
        for number in range(1, self.pieces(body)):
            end = self._boundary(number)
            yield end - start
            start = end
        yield body - start

    def _boundary(self, number):
        """The place behind so many pieces of a body without an end; 0 behind none of them."""
        place = 0
        rest = number
        for cut, count in zip(self.cuts, self._counts):
            place = place + rest // count * cut
            rest = rest % count
        return place


def _are_cuts(value):
    if not isinstance(value, (list, tuple)):
        return False
    before = GREATEST_CUT + 1
    for cut in value:
        if not is_within(cut, 1, before - 1):
            return False
        before = cut
    return True


def _piece_counts(cuts):
    """For each cut, the number of pieces that the cuts behind it make of one of its parts."""
    counts = ()
    for at in range(len(cuts) - 1, -1, -1):
        counts = (_pieces(cuts[at], cuts[at + 1:], counts), *counts)
    return counts


def _pieces(body, cuts, counts):
    pieces = 0
    rest = body
    for cut, count in zip(cuts, counts):
        pieces = pieces + rest // cut * count
        rest = rest % cut
    # A stretch is never empty, except that an empty body is one piece.
    if rest > 0 or body == 0:
        pieces = pieces + 1
    return pieces
