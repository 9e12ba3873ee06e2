"""The calls that change which programs are there: begin, define, would, drop, back, give."""

from wordhold.facts import keeps
from wordhold.house import Program
from wordhold.house import callers_of
from wordhold.house import in_force
from wordhold.house import log_is_full
from wordhold.house import new_cells
from wordhold.house import words_in_force
from wordhold.terms import BREAKS_ANOTHER
from wordhold.terms import FULL
from wordhold.terms import MOST_STEPS
from wordhold.terms import MOST_VERSIONS
from wordhold.terms import NOT_KEPT
from wordhold.terms import NOT_THERE
from wordhold.terms import NOT_YOURS
from wordhold.terms import ONLY_VERSION
from wordhold.terms import PEOPLE
from wordhold.terms import PROGRAMS
from wordhold.terms import WRONG
from wordhold.terms import is_bound
from wordhold.terms import may_be_asked

TOLD = 1
DROPPED = 2
TAKEN_BACK = 3


def begin(house):
    """Empties the house."""
    house.programs = {}
    house.entries = []
    house.cells = new_cells()
    return [0]


def may_be_told(who, f, version):
    """Whether who may tell such a version of f, as far as its numbers go."""
    if who >= PEOPLE or f >= PROGRAMS:
        return False
    bounds = version.word.bounds
    promise = version.word.promise
    if not may_be_asked(bounds, version.body) or not is_bound(promise.least, promise.most):
        return False
    return promise.deps >> len(bounds) == 0 and promise.steps <= MOST_STEPS


def refusal_in_force(house, f, version):
    """What speaks against this version as f's one in force; 0 if nothing does."""
    words = words_in_force(house)
    words[f] = version.word
    if not keeps(version.nodes, version.word, words):
        return NOT_KEPT
    # Who doesn't call f still keeps its word: no word that it goes by is another one now.
    for g in callers_of(house, f):
        caller = in_force(house, g)
        if not keeps(caller.nodes, caller.word, words):
            return BREAKS_ANOTHER
    return 0


def number_if_told(house, who, f, version):
    """Which number the version would have as f's next one; or why it's refused."""
    if not may_be_told(who, f, version):
        return WRONG
    number = 0
    if f in house.programs:
        if house.programs[f].owner != who:
            return NOT_YOURS
        number = len(house.programs[f].versions)
    if number >= MOST_VERSIONS or log_is_full(house):
        return FULL
    refusal = refusal_in_force(house, f, version)
    if refusal != 0:
        return refusal
    return number


def would(house, who, f, version):
    """What define would answer."""
    return [number_if_told(house, who, f, version)]


def define(house, who, f, version):
    """Puts a version of f in force."""
    number = number_if_told(house, who, f, version)
    if number >= 0:
        if f not in house.programs:
            house.programs[f] = Program(who)
        house.programs[f].versions.append(version)
        house.entries.append((TOLD, who, f))
    return [number]


def refusal_of_hand(house, who, f):
    """Why who can't lay hands on f; 0 if who can."""
    if f not in house.programs:
        return NOT_THERE
    if house.programs[f].owner != who:
        return NOT_YOURS
    return 0


def refusal_to_drop(house, who, f):
    """Why who can't drop f; 0 if who can."""
    refusal = refusal_of_hand(house, who, f)
    if refusal != 0:
        return refusal
    if log_is_full(house):
        return FULL
    if len(callers_of(house, f)) > 0:
        return BREAKS_ANOTHER
    return 0


def drop(house, who, f):
    """Does away with f and all its versions."""
    refusal = refusal_to_drop(house, who, f)
    if refusal != 0:
        return [refusal]
    house.programs.pop(f)
    house.entries.append((DROPPED, who, f))
    return [0]


def refusal_to_take_back(house, who, f):
    """Why who can't put f's version before in force again; 0 if who can."""
    refusal = refusal_of_hand(house, who, f)
    if refusal != 0:
        return refusal
    versions = house.programs[f].versions
    if len(versions) == 1:
        return ONLY_VERSION
    if log_is_full(house):
        return FULL
    return refusal_in_force(house, f, versions[-2])


def back(house, who, f):
    """Does away with f's last version, so that the one before is in force again."""
    refusal = refusal_to_take_back(house, who, f)
    if refusal != 0:
        return [refusal]
    house.programs[f].versions.pop()
    house.entries.append((TAKEN_BACK, who, f))
    return [len(house.programs[f].versions)]


def give(house, who, f, to):
    """Makes f somebody else's."""
    refusal = refusal_of_hand(house, who, f)
    if refusal != 0:
        return [refusal]
    if to >= PEOPLE:
        return [WRONG]
    house.programs[f].owner = to
    return [0]
