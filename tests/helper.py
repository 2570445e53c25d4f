"""What several test files need: a slow second way to issue, and inputs to compare it on."""

import itertools
import random


RULES = (0, 1)


def rows_of(lots):
    """The first week, last week and amount of each lot."""
    return [tuple(lots[start:start + 3]) for start in range(0, len(lots), 3)]


def issue_unit_by_unit(rule, lots, demand):
    """Issue one unit at a time; answer the shortage of each week and what is left of each lot."""
    rows = rows_of(lots)
    left = [amount for _, _, amount in rows]
    unmet = [0] * len(demand)
    for week, wanted in enumerate(demand):
        for _ in range(wanted):
            usable = [k for k, (first, last, _) in enumerate(rows) if left[k] and first <= week <= last]
            if not usable:
                unmet[week] += 1
                continue
            last_weeks = [rows[k][1] for k in usable]
            sought = min(last_weeks) if rule == 0 else max(last_weeks)
            left[usable[last_weeks.index(sought)]] -= 1
    return unmet, left


def small_inputs():
    """Every input of at most two lots and two weeks with small numbers."""
    single = [[first, last, amount] for last in range(4) for first in range(last + 1) for amount in (0, 1, 3)]
    lot_lists = [[]] + single + [one + other for one, other in itertools.product(single, repeat=2)]
    demands = [[one] for one in (0, 2, 4)] + [[one, other] for one in (0, 2) for other in (1, 2, 4)]
    return itertools.product(RULES, lot_lists, demands)


def varied_inputs():
    """Inputs of up to six lots and ten weeks, the same ones in every run."""
    source = random.Random(20)
    for _ in range(3000):
        weeks = source.randint(1, 10)
        highest = source.choice((3, 12, 99))
        latest = source.choice((weeks - 1, weeks, weeks + 2, 99))
        lots = []
        for _ in range(source.randint(0, 6)):
            first, last = sorted((source.randint(0, latest), source.randint(0, latest)))
            lots += [first, last, source.randint(0, highest)]
        yield source.choice(RULES), lots, [source.randint(0, highest) for _ in range(weeks)]


class UnchangingList(list):
    """A list that fails at once when it is changed, if only for a while."""

    def refuse(self, *args, **kwargs):
        raise AssertionError("a list that was handed in was changed")

    append = extend = insert = pop = remove = clear = sort = reverse = refuse
    __setitem__ = __delitem__ = __iadd__ = __imul__ = refuse
