"""Wrong values that the tests of several modules pass."""

NO_NUMBERS = (True, False, None, "", "1", "solid", (), (1,), [], [1], ((1,),))


def exchanged(items, other):
    """The tuple with some of its items, by their index, exchanged."""
    made = list(items)
    for place, item in other.items():
        made[place] = item
    return tuple(made)
