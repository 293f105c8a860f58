"""Plans: how many pages a room has, how long a page is, and of which sizes things are."""

from slabroom.errors import BadPlan, BadWish, NoSize, TooLarge

MOST_PAGES = 40
MOST_LENGTH = 60
MOST_SIZES = 8


def is_whole(number):
    """Tell whether this is a whole number."""
    # Python counts True and False among the integers, the document does not.
    return isinstance(number, int) and not isinstance(number, bool)


def is_within(number, least, most):
    """Tell whether this is a whole number from the least to the most."""
    return is_whole(number) and least <= number <= most


def check_sizes(sizes, length):
    """Refuse sizes that a plan with pages of this length may not have."""
    if not isinstance(sizes, list):
        raise BadPlan("the sizes are no list")
    if not is_within(len(sizes), 1, MOST_SIZES):
        raise BadPlan(f"a plan has 1 to {MOST_SIZES} sizes")
    ahead = 0
    for size in sizes:
        if not is_within(size, ahead + 1, length):
            raise BadPlan("the sizes are whole numbers from 1 to the length, rising, none twice")
        ahead = size


class Plan:
    """A plan of a room."""

    def __init__(self, pages, length, sizes):
        if not is_within(pages, 1, MOST_PAGES):
            raise BadPlan(f"a plan has 1 to {MOST_PAGES} pages")
        if not is_within(length, 1, MOST_LENGTH):
            raise BadPlan(f"a plan has a length of 1 to {MOST_LENGTH}")
        check_sizes(sizes, length)
        self.pages = pages
        self.length = length
        self.sizes = list(sizes)

    def size_for(self, wish):
        """Return the least size that is no less than the wish."""
        if not is_whole(wish) or wish < 1:
            raise BadWish("a wish is a whole number from 1 on")
        for size in self.sizes:
            if size >= wish:
                return size
        # The message leaves the wish out: Python does not write out every great number.
        raise TooLarge("the wish is beyond the greatest size")

    def per(self, size):
        """Return how many slots a shelf of this size has."""
        # True would be found in a list that has 1.
        if not is_whole(size) or size not in self.sizes:
            raise NoSize("the plan does not have this size")
        return self.length // size
