"""What several modules ask of numbers, and of lists and tuples of them."""


def is_ascending(numbers):
    """Tell whether each number is greater than the one before it."""
    return all([numbers[at - 1] < numbers[at] for at in range(1, len(numbers))])


def are_ascending_steps(numbers, steps):
    """Tell whether the numbers are ascending and each one is a step, if there are so many steps."""
    return is_ascending(numbers) and all([0 <= number < steps for number in numbers])


def is_whole(number):
    """Tell whether any value is an integer; True and False are none."""
    return isinstance(number, int) and not isinstance(number, bool)
