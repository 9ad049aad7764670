"""What counts as a number, and which sizes a field may have."""

from landlines.errors import BadSize

MOST_SIZE = 1000


def is_number(value):
    """Whether a value is a whole number."""
    # Python counts True and False among the integers; the document does not.
    return isinstance(value, int) and not isinstance(value, bool)


def is_number_within(value, low, high):
    """Whether a value is a number from low to high."""
    return is_number(value) and low <= value <= high


def check_size(size):
    """Refuses with BadSize what is no size of a field."""
    if not is_number_within(size, 1, MOST_SIZE):
        # No message shows a value: Python refuses to write out very long numbers.
        raise BadSize("a size is a number from 1 to 1000")
