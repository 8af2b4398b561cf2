"""Ascending lists of numbers."""


def is_ascending(numbers):
    """Whether each number of a list is greater than the one before."""
    return all([numbers[k - 1] < numbers[k] for k in range(1, len(numbers))])


def count_until(numbers, limit):
    """How many numbers of an ascending list are at most the limit."""
    low = 0
    high = len(numbers)
    while low < high:
        middle = (low + high) // 2
        if numbers[middle] <= limit:
            low = middle + 1
        else:
            high = middle
    return low
