"""The limits of the house, and the numbers of its refusals."""

VALUES = 4294967296
PEOPLE = 16
PROGRAMS = 16
CELLS = 32
EVERYBODY = 65535
MOST_BOUNDS = 4
MOST_STEPS = 20000
MOST_BODY = 200
MOST_VERSIONS = 8
MOST_ENTRIES = 128

NOT_YOURS = -1
NOT_THERE = -2
ONLY_VERSION = -6
NOT_SEEN = -13
BREAKS_ANOTHER = -17
WRONG = -22
FULL = -28
NOT_KEPT = -33
NOT_WITHIN = -71


def is_bound(least, most):
    """Whether this may be a bound."""
    return least <= most and most < VALUES


def may_be_asked(bounds, body):
    """Whether these may be the bounds and the body of a program."""
    if len(bounds) > MOST_BOUNDS or len(body) > MOST_BODY:
        return False
    return all([is_bound(bound[0], bound[1]) for bound in bounds])
