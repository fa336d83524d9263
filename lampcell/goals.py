"""Which goals are sure and which come, and how many visits counting takes: of the numbers alone."""


def least_sure(people, times, known):
    """The least goal that is never said wrongly."""
    # While one of the others hasn't been called, only the rest of them turn the lamp on.
    from_others = (people - 2) * times
    # Where it isn't known how the lamp is at first, it may burn, and that is counted too.
    from_first = 1 - known
    return from_others + from_first + 1


def greatest_coming(people, times):
    """The greatest goal that rounds always lead to."""
    # Where it isn't known how the lamp is at first, it may be off, so nothing more can be relied on.
    return (people - 1) * times


def fewest_visits(wanted, burning):
    """How many visits it takes to count so many more, if the lamp is burning (1) or off (0) before them."""
    # Each is turned on by one visit and off by another; a lamp that burns already spares the first.
    return 2 * wanted - burning
