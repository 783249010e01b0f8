"""Questions, of anything, that several modules ask about what is handed in, and the refusal that they share."""

from freshreach.errors import NoMoment


def is_whole(thing):
    # A truth is an int to Python, but no whole number here.
    return isinstance(thing, int) and not isinstance(thing, bool)


def is_within(thing, least, most):
    return is_whole(thing) and least <= thing <= most


def is_from(thing, least):
    return is_whole(thing) and thing >= least


def is_place(thing):
    """Whether it is a place of some plan, which one is not known."""
    return is_within(thing, 0, 7)


def is_letters(thing, least, most):
    """Whether it is a text of least to most small letters."""
    if not isinstance(thing, str) or not least <= len(thing) <= most:
        return False
    # Not islower(): that knows other alphabets' letters, too.
    return all(["a" <= sign <= "z" for sign in thing])


def is_word(thing):
    return is_letters(thing, 1, 8)


def is_tuple(thing, least, most):
    """Whether it is a tuple of least to most parts."""
    return isinstance(thing, tuple) and least <= len(thing) <= most


def rises(rows):
    return all([lesser < greater for lesser, greater in zip(rows, rows[1:])])


def check_moment(moment, last):
    """Refuses what is no moment, or is one that is earlier than the last."""
    if not is_from(moment, last):
        raise NoMoment("no moment from the last one on was handed in")
