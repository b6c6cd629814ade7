"""The refusals: each is one number, below 0, alone."""


def no_such():
    """There is no such name, or no such view."""
    return [-2]


def none_to_take():
    """There is nothing that could be taken back."""
    return [-6]


def not_begun():
    """No begin was let yet."""
    return [-11]


def may_not_come():
    """The name may not come by one move."""
    return [-12]


def not_let():
    """A number isn't one of those that are let."""
    return [-22]


def none_may_come():
    """No name may come by one move."""
    return [-33]
