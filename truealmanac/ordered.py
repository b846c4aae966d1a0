"""Searching in ascending lists."""


def last_up_to(numbers, top):
    """The index of the last of some ascending numbers that is at most top; -1 if there is none."""
    low = -1
    high = len(numbers)
    while high - low > 1:
        middle = (low + high) // 2
        if numbers[middle] <= top:
            low = middle
        else:
            high = middle
    return low
