"""Leases: what rights lend each other, and what that does to the others (l1 to l3)."""

from heldwater.basins import DEMANDS, RIGHT_NAME, RIGHT_SITE
from heldwater.errors import BadChange
from heldwater.flows import delivered

MOST_LEASES = 4
MOST_AMOUNT = 99
TOO_MUCH = "more than it has"
LETTERS = "abcdefghijklmnopqrstuvwxyz"


def under(basin, rights, leases):
    """The rights as they are under leases; raises BadChange (l1)."""
    return tuple([right for _, right in holdings(basin, rights, leases)])


def harm(basin, rights, leases):
    """What rights that neither lend nor borrow lose by leases; raises BadChange (l3)."""
    after = had_by(basin, holdings(basin, rights, leases))
    before = had_by(basin, holdings(basin, rights, ()))
    partners = [name for lender, borrower, _, _ in leases for name in (lender, borrower)]
    found = []
    for name, row in before.items():
        if name in partners:
            continue
        for m, amount in enumerate(row):
            if after[name][m] < amount:
                found.append((name, m, amount, after[name][m]))
    return tuple(found)


def gets(basin, rights, leases, name):
    """What a right has under leases, month by month; raises BadChange (l3)."""
    return had_by(basin, holdings(basin, rights, leases))[name]


def safe_lease(basin, rights, lender, borrower, month):
    """The greatest amount such that leases from 1 to it do no harm; raises BadChange (l3)."""
    wrong = lease_fault(basin, rights, (), (lender, borrower, month, 1))
    if wrong is not None and wrong != TOO_MUCH:
        raise BadChange(wrong)
    # More than a lease can be is none, whatever the lender demands.
    most = min(right_called(rights, lender)[DEMANDS][month], MOST_AMOUNT)
    for amount in range(1, most + 1):
        if harm(basin, rights, ((lender, borrower, month, amount),)):
            return amount - 1
    return most


def right_called(rights, name):
    """The right with this name, or None."""
    for right in rights:
        if right[RIGHT_NAME] == name:
            return right
    return None


def lent(leases, name, month):
    """How much a right lends in a month."""
    return sum([amount for lender, _, m, amount in leases if lender == name and m == month])


def refuse_bad(basin, rights, leases):
    """Raises BadChange if leases are refused (l2)."""
    for k, lease in enumerate(leases):
        wrong = lease_fault(basin, rights, leases[:k], lease)
        if wrong is not None:
            raise BadChange(wrong)
    if len(leases) > MOST_LEASES:
        raise BadChange("too many leases")


def lease_fault(basin, rights, earlier, lease):
    """Why a lease is refused behind earlier ones, or None."""
    lender, borrower, month, amount = lease
    if right_called(rights, lender) is None or right_called(rights, borrower) is None:
        return "no such right"
    if lender == borrower:
        return "same right"
    if month < 0 or month >= basin[0]:
        return "no such month"
    if amount < 1 or amount > MOST_AMOUNT:
        return "no such amount"
    if lent(earlier, lender, month) + amount > right_called(rights, lender)[DEMANDS][month]:
        return TOO_MUCH
    return None


def holdings(basin, rights, leases):
    """The pairs (whose it is, right) of the rights under leases, in order; raises BadChange."""
    refuse_bad(basin, rights, leases)
    found = []
    for name, place, demands in rights:
        left = [amount - lent(leases, name, m) for m, amount in enumerate(demands)]
        found.append((name, (name, place, tuple(left))))
        for k, (lender, borrower, month, amount) in enumerate(leases):
            if lender == name:
                wants = tuple([amount if m == month else 0 for m in range(basin[0])])
                found.append((borrower, ("lease" + LETTERS[k], right_called(rights, borrower)[RIGHT_SITE], wants)))
    return found


def had_by(basin, held):
    """What each right has in all, month by month, of the pairs (whose it is, right)."""
    rows = delivered(basin, tuple([right for _, right in held]))
    had = {}
    for (owner, _), row in zip(held, rows):
        earlier = had.get(owner, (0,) * basin[0])
        had[owner] = tuple([one + other for one, other in zip(earlier, row)])
    return had
