"""A ground: a field whose fences are put and taken one by one."""

from landlines.checks import check_size, is_number
from landlines.errors import NoFence, TooMany
from landlines.far import twice_area
from landlines.fences import MOST_FENCES, check_fence, fences_and_edges
from landlines.land import corners_between


class Ground:
    """A field and the fences that stand on it, by their numbers."""

    def __init__(self, size):
        check_size(size)
        self._size = size
        self._fences = {}
        self._coming = 0

    def put(self, fence):
        """The number of a fence that comes."""
        check_fence(fence)
        if len(self._fences) >= MOST_FENCES:
            raise TooMany("at most 16 fences stand at once")
        number = self._coming
        self._fences[number] = fence
        self._coming = number + 1
        return number

    def take(self, number):
        """The fence that goes."""
        # Python takes True for 1 and 1.0 for 1, so that what is no number could hit a fence.
        if not is_number(number) or number not in self._fences:
            raise NoFence("no fence of that number stands")
        return self._fences.pop(number)

    def standing(self):
        """A new list of the pairs of a number and its fence, numbers rising."""
        # A dict keeps the order in which its keys came, and each number is above those before it.
        return list(self._fences.items())

    def corners(self):
        """A new list of the corners of the ground's land."""
        return corners_between(fences_and_edges(self._size, self._numbered_fences()))

    def area(self):
        """Twice the area of the ground's land, as a pair in lowest terms."""
        return twice_area(self._size, self._numbered_fences())

    def _numbered_fences(self):
        return list(self._fences.values())
