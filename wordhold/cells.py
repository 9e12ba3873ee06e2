"""The calls over cells: put, run, narrow, clear, read, seen, how."""

from wordhold.house import Cell
from wordhold.house import FROM_NOBODY
from wordhold.house import PUT_BY
from wordhold.house import RUN_BY
from wordhold.house import in_force
from wordhold.house import new_cell
from wordhold.running import evaluate
from wordhold.terms import CELLS
from wordhold.terms import EVERYBODY
from wordhold.terms import NOT_SEEN
from wordhold.terms import NOT_THERE
from wordhold.terms import NOT_WITHIN
from wordhold.terms import NOT_YOURS
from wordhold.terms import PEOPLE
from wordhold.terms import WRONG


def may_see(cell, who):
    """Whether who may see the cell."""
    return (cell.mask >> who) & 1 == 1


def is_from(cell, who):
    """Whether it was who that put or ran it last."""
    return cell.origin[0] != FROM_NOBODY and cell.origin[1] == who


def put_cell(house, who, k, bound, value, mask):
    """Puts a value into cell k."""
    if who >= PEOPLE or k >= CELLS or mask > EVERYBODY:
        return [WRONG]
    # Between a from and a to below it there's no value, so that such a bound is refused here, too.
    if value < bound[0] or value > bound[1]:
        return [WRONG]
    house.cells[k] = Cell(value, bound, mask, [PUT_BY, who])
    return [0]


def refusal_to_run(house, who, f, to, places):
    """Why who can't run f over the cells at these places into cell to; 0 if who can."""
    if who >= PEOPLE or to >= CELLS or any([k >= CELLS for k in places]):
        return WRONG
    if f not in house.programs:
        return NOT_THERE
    bounds = in_force(house, f).word.bounds
    if len(places) != len(bounds):
        return WRONG
    over = [house.cells[k] for k in places]
    if not all([may_see(cell, who) for cell in over]):
        return NOT_SEEN
    for cell, bound in zip(over, bounds):
        if cell.bound[0] < bound[0] or cell.bound[1] > bound[1]:
            return NOT_WITHIN
    return 0


def mask_of_result(deps, over):
    """Who may see what hangs on those of these cells that are in deps."""
    mask = EVERYBODY
    for k, cell in enumerate(over):
        if (deps >> k) & 1 == 1:
            mask = mask & cell.mask
    return mask


def run_over(house, who, f, to, places):
    """Runs f over the cells at these places, and puts what it gives into cell to."""
    refusal = refusal_to_run(house, who, f, to, places)
    if refusal != 0:
        return [refusal]
    over = [house.cells[k] for k in places]
    promise = in_force(house, f).word.promise
    outcome = evaluate(house, f, [cell.value for cell in over])
    number = len(house.programs[f].versions) - 1
    bound = (promise.least, promise.most)
    mask = mask_of_result(promise.deps, over)
    house.cells[to] = Cell(outcome.value, bound, mask, [RUN_BY, who, f, number] + places)
    return [0]


def narrow_cell(house, who, k, mask):
    """Takes cell k out of the sight of all who aren't in mask."""
    if k >= CELLS or mask > EVERYBODY:
        return [WRONG]
    cell = house.cells[k]
    if not is_from(cell, who):
        return [NOT_YOURS]
    cell.mask = cell.mask & mask
    return [0]


def clear_cell(house, who, k):
    """Makes cell k as it is at the beginning."""
    if k >= CELLS:
        return [WRONG]
    if not is_from(house.cells[k], who):
        return [NOT_YOURS]
    house.cells[k] = new_cell()
    return [0]


def read_cell(house, who, k):
    """The value of cell k."""
    if who >= PEOPLE or k >= CELLS:
        return [WRONG]
    if not may_see(house.cells[k], who):
        return [NOT_SEEN]
    return [0, house.cells[k].value]


def tell_seen(house, k):
    """Who may see cell k, and what it lies within."""
    if k >= CELLS:
        return [WRONG]
    cell = house.cells[k]
    return [0, cell.mask, cell.bound[0], cell.bound[1]]


def tell_how(house, k):
    """How cell k came."""
    if k >= CELLS:
        return [WRONG]
    return list(house.cells[k].origin)
