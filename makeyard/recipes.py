"""What a recipe makes of the numbers of its makings, by its sort."""

from makeyard.errors import NoSort

SORTS = ("sum", "most", "take")


def check_sort(sort):
    if sort not in SORTS:
        raise NoSort(f"no sort of a recipe: {sort!r}")


def taken(numbers):
    if not numbers:
        return None
    left = numbers[0] - sum(numbers[1:])
    # A take can't take more than is there; sum and most have no such bound.
    return left if left >= 0 else None


def worked(sort, numbers):
    check_sort(sort)
    if sort == "sum":
        return sum(numbers)
    if sort == "most":
        return max(numbers, default=None)
    return taken(numbers)
