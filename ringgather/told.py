"""How lists of numbers are answered."""


def counted(numbers):
    """Tell how many numbers there are, then these."""
    return [len(numbers)] + list(numbers)
