"""What several modules ask of lists and tuples of numbers."""


def is_ascending(numbers):
    """Tell whether each number is greater than the one before it."""
    return all([numbers[at - 1] < numbers[at] for at in range(1, len(numbers))])
