"""The house: which programs are there, whose they are, their versions, the log, and the cells."""

from wordhold.expressions import CALL
from wordhold.expressions import read_body
from wordhold.terms import CELLS
from wordhold.terms import EVERYBODY
from wordhold.terms import MOST_ENTRIES

FROM_NOBODY = 0
PUT_BY = 1
RUN_BY = 2


class Version:
    """A word and a body as they were told; nodes is None where the body is no expression."""

    def __init__(self, word, body):
        self.word = word
        self.body = body
        self.nodes = read_body(body, len(word.bounds))


class Program:
    """Whose it is, and its versions, of which the last one is in force."""

    def __init__(self, owner):
        self.owner = owner
        self.versions = []


class Cell:
    """A value, the (from, to) that it lies within, who may see it as bits, and how it came.

    origin: FROM_NOBODY alone; or PUT_BY, who; or RUN_BY, who, which program, which version, over which cells.
    """

    def __init__(self, value, bound, mask, origin):
        self.value = value
        self.bound = bound
        self.mask = mask
        self.origin = origin


def new_cell():
    """A cell as it is at the beginning."""
    return Cell(0, (0, 0), EVERYBODY, [FROM_NOBODY])


def new_cells():
    """All cells as they are at the beginning."""
    return [new_cell() for k in range(CELLS)]


class House:
    """All that one line's calls are asked of. An entry of the log is what was done, by whom, to which program."""

    def __init__(self):
        self.programs = {}
        self.entries = []
        self.cells = new_cells()


def log_is_full(house):
    """Whether the log takes no further entry."""
    return len(house.entries) >= MOST_ENTRIES


def in_force(house, f):
    """The version in force of a program that's there."""
    return house.programs[f].versions[-1]


def words_in_force(house):
    """The word in force of each program that's there."""
    words = {}
    for f in house.programs:
        words[f] = in_force(house, f).word
    return words


def called_by(house, f):
    """Whom the body in force of f calls, rising."""
    return sorted(set([node.number for node in in_force(house, f).nodes if node.kind == CALL]))


def callers_of(house, f):
    """Whose bodies in force call f, rising."""
    return [g for g in sorted(house.programs) if f in called_by(house, g)]
