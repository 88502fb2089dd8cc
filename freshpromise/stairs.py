"""Staircases: sets of pairs that are told by their corners."""

from freshpromise.errors import BadStairs, BadText
from freshpromise.goods import is_pair, read_number


class Stairs:
    """The least staircase that has some pairs.

    The corners are kept in ascending sequence, by their days and so by their keeps, too.
    Two staircases have the same pairs exactly if they have the same corners.
    """

    def __init__(self, *pairs):
        for pair in pairs:
            if not is_pair(pair):
                raise BadStairs(pair)
        self._corners = _corners_among(pairs)

    @classmethod
    def read(cls, text):
        """Return the staircase whose corners a text tells; raise BadText for any other value."""
        pairs = _pairs_told(text)
        if pairs is None:
            raise BadText(text)
        stairs = cls(*pairs)
        # Each staircase has one text: what is told in any other way is wrong.
        if stairs.text != text:
            raise BadText(text)
        return stairs

    @property
    def text(self):
        """The corners, as read takes them."""
        return ", ".join([f"{day} {keeps}" for day, keeps in self._corners])

    @property
    def corners(self):
        """The list of the corners, in ascending sequence."""
        return [(day, keeps) for day, keeps in self._corners]

    def __len__(self):
        return len(self._corners)

    def __bool__(self):
        return bool(self._corners)

    def __contains__(self, value):
        if not is_pair(value):
            return False
        for day, keeps in self._corners:
            # Of the corners that are not too early, the first one has the least keeps.
            if value[0] <= day:
                return value[1] >= keeps
        return False

    def __eq__(self, other):
        return isinstance(other, Stairs) and self._corners == other._corners

    def __or__(self, other):
        both = [*self._corners, *other._corners]
        return Stairs(*both)

    def __and__(self, other):
        shared = _shared_pairs(self._corners, other._corners)
        return Stairs(*shared)

    def within(self, second):
        """Return whether all pairs of this staircase are in the second one."""
        return (self & second) == self


def _corners_among(pairs):
    """Return those of some pairs that no other one brings along, ascending, each once."""
    found = []
    for day, keeps in sorted(pairs):
        while found and found[-1][1] >= keeps:
            found.pop()
        if not found or found[-1][0] < day:
            found.append((day, keeps))
    return found


def _shared_pairs(first, second):
    """Return pairs that two staircases with these corners share, all corners of what they share among them.

    From day to day of the corners, the later one of the least keeps on both sides is taken.
    """
    found = []
    left = 0
    right = 0
    while left < len(first) and right < len(second):
        day = min(first[left][0], second[right][0])
        found.append((day, max(first[left][1], second[right][1])))
        if first[left][0] == day:
            left += 1
        else:
            right += 1
    return found


def _pairs_told(text):
    """Return the pairs that a text tells in any sequence, or None if it doesn't tell pairs."""
    if not isinstance(text, str):
        return None
    pairs = []
    if text == "":
        return pairs
    for part in text.split(", "):
        pair = tuple([read_number(word) for word in part.split(" ")])
        if not is_pair(pair):
            return None
        pairs.append(pair)
    return pairs
