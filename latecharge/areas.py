"""Sets of slots."""

from latecharge.errors import NotUsable
from latecharge.kinds import is_slot


class Area:
    """A set of slots; it never changes."""

    def __init__(self, slots):
        if not isinstance(slots, tuple):
            raise NotUsable("slots", -1)
        for k, slot in enumerate(slots):
            if not is_slot(slot):
                raise NotUsable("slots", k)
        self._slots = tuple(sorted(set(slots)))

    @staticmethod
    def box(purses, first, last):
        """The Area of these purses, each on all days from first to last."""
        return Area(tuple([(purse, day) for purse in purses for day in range(first, last + 1)]))

    @property
    def slots(self):
        """The set of the slots."""
        return self._slots

    def __len__(self):
        return len(self._slots)

    def __iter__(self):
        return iter(self._slots)

    def __contains__(self, thing):
        return is_slot(thing) and thing in self._slots

    def __eq__(self, other):
        return isinstance(other, Area) and self._slots == other._slots

    def __and__(self, other):
        if not isinstance(other, Area):
            return NotImplemented
        return Area(tuple(sorted(set(self._slots) & set(other._slots))))

    def __or__(self, other):
        if not isinstance(other, Area):
            return NotImplemented
        return Area(tuple(sorted(set(self._slots) | set(other._slots))))

    def __sub__(self, other):
        if not isinstance(other, Area):
            return NotImplemented
        return Area(tuple(sorted(set(self._slots) - set(other._slots))))

    def is_within(self, other):
        """Whether all slots of this Area are in the other one."""
        return (self & other) == self

    def is_apart(self, other):
        """Whether no slot of this Area is in the other one."""
        return len(self & other) == 0

    def days(self, purse):
        """The set of the days on which it has a slot of this purse, any value."""
        return tuple([day for name, day in self._slots if name == purse])

    def names(self):
        """The set of the purses of its slots."""
        return tuple(sorted({slot[0] for slot in self._slots}))
