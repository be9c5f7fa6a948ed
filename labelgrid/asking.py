"""Questions with a budget: released functions of ranges that users may ask for a number of times."""

from labelgrid.rights import may_all
from labelgrid.visible import DENIED

MOST_BUDGETS = 40


class Counter:
    """A desk with budgets, and a ledger of the answers that they gave."""

    def __init__(self, desk):
        self._desk = desk
        self._budgets = []
        self._ledger = []

    def perform(self, user, deed):
        """Perform a deed of a user and return the answer."""
        if deed[0] == "budget":
            return self._give(user, deed)
        if deed[0] == "ask":
            return self._ask(user, deed[1], deed[2])
        return self._desk.perform(user, deed)

    def budgets(self):
        """Return the list of the budgets as they are."""
        return [(area, list(functions), list(to), by, list(counts))
                for area, functions, to, by, counts in self._budgets]

    def ledger(self):
        """Return the ledger."""
        return list(self._ledger)

    def _give(self, user, deed):
        """Give a budget."""
        _, area, functions, to, count = deed
        if not may_all(self._desk.book[4], user, "own", area):
            return ("refused", "rights")
        if len(self._budgets) >= MOST_BUDGETS:
            return ("refused", "size")
        self._budgets.append((area, list(functions), list(to), user, [count] * len(to)))
        return ("ok", len(self._budgets) - 1)

    def _ask(self, user, function, area):
        """Answer a question from what the user sees, or else from a budget."""
        if DENIED not in self._desk.shown(user, area):
            return ("value", self._desk.call_value(function, area), None)
        fitting = [index for index, budget in enumerate(self._budgets)
                   if _fits(budget, user, function, area) and may_all(self._desk.book[4], budget[3], "own", area)]
        if not fitting:
            return ("refused", "rights")
        filled = [index for index in fitting if _count_of(self._budgets[index], user) > 0]
        if not filled:
            return ("refused", "spent")
        left = self._spend(user, filled[0])
        self._ledger.append((user, function, area, filled[0]))
        return ("value", self._desk.call_value(function, area), left)

    def _spend(self, user, index):
        """Take one answer from a budget, and return how many are left for the user."""
        _, _, to, _, counts = self._budgets[index]
        place = to.index(user)
        counts[place] = counts[place] - 1
        return counts[place]


def _fits(budget, user, function, area):
    """Return whether a budget has exactly a range, names a function and has a user."""
    return budget[0] == area and function in budget[1] and user in budget[2]


def _count_of(budget, user):
    """Return the number of answers that a budget has for one of its users."""
    return budget[4][budget[2].index(user)]


def ledger_right(budgets, ledger):
    """Return whether a ledger is right for some budgets with their first counts."""
    spent = {}
    for user, function, area, index in ledger:
        if not 0 <= index < len(budgets) or not _fits(budgets[index], user, function, area):
            return False
        spent[(user, index)] = spent.get((user, index), 0) + 1
        if spent[(user, index)] > _count_of(budgets[index], user):
            return False
    return True
