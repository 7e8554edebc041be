"""Whether a thing has the form that is asked for, whatever it is: nothing here raises an error (c4)."""


def is_whole(thing):
    """Whether this is an integer (True and False are none)."""
    return isinstance(thing, int) and not isinstance(thing, bool)


def is_tuple_of(thing, many):
    """Whether this is a tuple of so many things."""
    return isinstance(thing, tuple) and len(thing) == many


def is_row(thing, many):
    """Whether this is a tuple of so many integers from 0."""
    return is_tuple_of(thing, many) and all([is_whole(amount) and amount >= 0 for amount in thing])


def is_row_within(thing, many, most):
    """Whether this is a tuple of so many integers from 0 to this."""
    return is_row(thing, many) and all([amount <= most for amount in thing])


def is_table(thing, many, months):
    """Whether this is a tuple of so many rows."""
    return is_tuple_of(thing, many) and all([is_row(row, months) for row in thing])


def is_plan(basin, rights, thing):
    """Whether this has the form of a plan (c4)."""
    months, sites = basin
    if not is_tuple_of(thing, 3):
        return False
    deliveries, releases, storages = thing
    return (
        is_table(deliveries, len(rights), months)
        and is_table(releases, len(sites), months)
        and is_table(storages, len(sites), months)
    )
