"""What any thing is looked at for, whichever kind is asked of it."""


def is_number(thing):
    """Whether it is a NUMBER."""
    # Python counts True and False among the integers; here they are none.
    return isinstance(thing, int) and not isinstance(thing, bool)


def is_number_from(least, thing):
    """Whether it is a NUMBER, no less than the least."""
    return is_number(thing) and thing >= least


def is_number_of_work(many, thing):
    """Whether it is the number of one of so many works."""
    return is_number_from(0, thing) and thing < many


def is_tuple_of(many, thing):
    """Whether it is a tuple of so many things."""
    return isinstance(thing, tuple) and len(thing) == many


def rises(things):
    """Whether each thing is above the one ahead of it."""
    return all([one < other for one, other in zip(things, things[1:])])


def is_set_of_works(many, thing):
    """Whether it is a SET of so many works."""
    if not isinstance(thing, tuple) or not all([is_number_of_work(many, entry) for entry in thing]):
        return False
    return rises(thing)
