"""Rows that hold a list of orders, as few as any, and the papers that show it."""

from steploft.errors import TooMany
from steploft.machines import is_row, sorted_row
from steploft.ties import Ties, is_behind, is_not_ahead
from steploft.ways import is_between, is_tuple_of, is_whole

MOST_ORDERS = 10


def holds_list(machine, orders, rows):
    """Whether the rows, anything, hold the list of orders."""
    if not isinstance(rows, list):
        return False
    if not all(is_row(machine, row) and len(row) > 0 for row in rows):
        return False
    if not has_same_orders(orders, rows):
        return False
    places = [row_number(orders, at, rows) for at in range(len(orders))]
    for at, later in enumerate(orders):
        for number, earlier in enumerate(orders[:at]):
            if is_behind(later, earlier) and places[at] <= places[number]:
                return False
            if is_not_ahead(later, earlier) and places[at] < places[number]:
                return False
    return True


def has_same_orders(orders, rows):
    """Whether the rows have each order just as often as the list has it."""
    laid = [order for row in rows for order in row]
    return len(laid) == len(orders) and all(laid.count(order) == orders.count(order) for order in orders)


def row_number(orders, at, rows):
    """The number of the row in which the order at this number of the list stands."""
    # Like orders write the same, so they stand in the rows one behind the other, as in the list.
    having = [number for number, row in enumerate(rows) if orders[at] in row]
    return having[orders[:at].count(orders[at])]


def packed(machine, orders):
    """A list of rows that hold the list of orders, as few as any; or TooMany."""
    ties = ties_of(machine, orders)
    left = ties.everything()
    best = {}
    find_best(ties, left, best)
    rows = []
    while left != 0:
        many, row = best[left]
        rows.append(sorted_row([orders[k] for k in ties.numbers(row)]))
        left &= ~row
    return rows


def ties_of(machine, orders):
    """The ties of a list that is short enough to be looked through; or TooMany."""
    if len(orders) > MOST_ORDERS:
        raise TooMany(f"a list of {len(orders)} orders has more than {MOST_ORDERS}")
    return Ties(machine, orders)


def find_best(ties, left, best):
    """How many rows the left orders need; best gets, for all that is gone through, this and a first row to it."""
    if left == 0:
        best[left] = (0, 0)
    if left not in best:
        # Full first rows are enough: what is left behind a fuller one needs no more rows.
        best[left] = min([(1 + find_best(ties, left & ~row, best), row) for row in ties.first_rows(left)])
    return best[left][0]


def paper_of(machine, orders):
    """A paper that shows how many rows the list of orders needs: (many, claims); or TooMany."""
    ties = ties_of(machine, orders)
    best = {}
    many = find_best(ties, ties.everything(), best)
    return (many, tuple([(ties.numbers(left), best[left][0]) for left in best]))


def paper_holds(machine, orders, paper):
    """Whether the paper, anything, is one that holds for the list of orders."""
    if not is_tuple_of(paper, 2):
        return False
    many, claims = paper
    if not is_whole(many) or not isinstance(claims, tuple):
        return False
    if not all(is_claim(claim, len(orders)) for claim in claims):
        return False
    if (tuple(range(len(orders))), many) not in claims:
        return False
    return claims_hold(Ties(machine, orders), claims)


def is_claim(thing, many):
    """Whether the thing has the form of a claim about so many orders."""
    if not is_tuple_of(thing, 2) or not is_whole(thing[1]) or not isinstance(thing[0], tuple):
        return False
    left = thing[0]
    if not all(is_between(k, 0, many - 1) for k in left):
        return False
    return all(one < other for one, other in zip(left, left[1:]))


def claims_hold(ties, claims):
    """Whether each of the claims has a reason."""
    # The greatest claim of a left leads where its lesser ones lead, and its reason is one for them, too.
    greatest = {}
    for numbers, many in claims:
        left = sum(1 << k for k in numbers)
        greatest[left] = max(many, greatest.get(left, many))
    return all(has_reason(ties, left, greatest) for left in greatest)


def has_reason(ties, left, greatest):
    """Whether the greatest claim of these left orders has a reason."""
    many = greatest[left]
    if many <= 0:
        return True
    if left == 0:
        return False
    if many == 1:
        return True
    return all(greatest.get(left & ~row, 0) >= many - 1 for row in ties.first_rows(left))
