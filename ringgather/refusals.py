"""The refusals: each is one number, below 0, alone."""


def no_such():
    """There is no such name, or no such view."""
    return [-2]


def none_to_take():
    """There is nothing that could be taken back."""
    return [-6]


def not_marked():
    """The name isn't marked."""
    return [-6]


def some_is_good():
    """Some rule is good, so that nothing is to be told why none is."""
    return [-6]


def not_begun():
    """No begin was let yet."""
    return [-11]


def may_not_come():
    """The name may not come by one move."""
    return [-12]


def marked_already():
    """The name is marked."""
    return [-17]


def not_let():
    """A number isn't one of those that are let."""
    return [-22]


def too_many_rules():
    """There are more rules than are tried."""
    return [-28]


def none_may_come():
    """No name may come by one move."""
    return [-33]


def not_gathered():
    """The ring doesn't gather surely, or can never."""
    return [-33]


def none_is_good():
    """No rule is good."""
    return [-33]
