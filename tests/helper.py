"""What several test files need: calls of every operation, slow second ways to answer, and inputs."""

import itertools
import random

from freshlots.issuing import (
    best_proof, check_plan, issued_in_week, proven_shortage, remaining, shortage_saved, shortages
)

RULES = (0, 1)
HIGHEST_HANDED_IN = 4294967295


def calls_by_rule(lots, demand, rules, weeks):
    """Every operation that takes a rule, with the arguments it is to be called with."""
    for rule in rules:
        yield shortages, (rule, lots, demand)
        yield remaining, (rule, lots, demand)
        for week in weeks:
            yield issued_in_week, (rule, week, lots, demand)


def calls(lots, demand, rules=RULES, weeks=(0,), masks=(0,), tables=([],), indexes=(0,)):
    """Every operation, with the arguments it is to be called with."""
    yield from calls_by_rule(lots, demand, rules, weeks)
    yield best_proof, (lots, demand)
    for mask in masks:
        yield proven_shortage, (mask, lots, demand)
    for table in tables:
        yield check_plan, (lots, demand, table)
    for index in indexes:
        yield shortage_saved, (index, lots, demand)


def rows_of(lots):
    """The first week, last week and amount of each lot."""
    return [tuple(lots[start:start + 3]) for start in range(0, len(lots), 3)]


def issue_unit_by_unit(rule, lots, demand):
    """Issue one unit at a time: the shortage of each week, what is left of each lot, each week's takings."""
    rows = rows_of(lots)
    left = [amount for _, _, amount in rows]
    unmet = [0] * len(demand)
    taken = [[0] * len(rows) for _ in demand]
    for week, wanted in enumerate(demand):
        for _ in range(wanted):
            usable = [k for k, (first, last, _) in enumerate(rows) if left[k] and first <= week <= last]
            if not usable:
                unmet[week] += 1
                continue
            last_weeks = [rows[k][1] for k in usable]
            sought = min(last_weeks) if rule == 0 else max(last_weeks)
            used = usable[last_weeks.index(sought)]
            left[used] -= 1
            taken[week][used] += 1
    return unmet, left, taken


def proofs_of_all_sets(lots, demand):
    """Look at every set of weeks as such, not at its mask: the proven shortage of each."""
    rows = rows_of(lots)
    proven = {}
    for size in range(len(demand) + 1):
        for weeks in itertools.combinations(range(len(demand)), size):
            usable = [amount for first, last, amount in rows if set(range(first, last + 1)) & set(weeks)]
            proven[weeks] = max(0, sum(demand[week] for week in weeks) - sum(usable))
    return proven


def proof_by_search(lots, demand):
    """The greatest proven shortage and all the sets of weeks that have it."""
    proven = proofs_of_all_sets(lots, demand)
    greatest = max(proven.values())
    return greatest, [weeks for weeks, shortage in proven.items() if shortage == greatest]


def mask_of(weeks):
    """The mask of a set of weeks."""
    return sum(2 ** week for week in weeks)


def table_of_issuing(rule, lots, demand):
    """What is issued by the rule, week by week, as a plan."""
    taken = [issued_in_week(rule, week, lots, demand)[1:] for week in range(len(demand))]
    return [amount for amounts in taken for amount in amounts]


def feasible_unit_by_unit(lots, demand, table):
    """Follow the plan one unit at a time: whether each unit can be had and is wanted."""
    rows = rows_of(lots)
    if len(table) != len(rows) * len(demand):
        return False
    left = [amount for _, _, amount in rows]
    wanted = list(demand)
    for place, amount in enumerate(table):
        week, index = divmod(place, len(rows))
        for _ in range(amount):
            if week not in range(rows[index][0], rows[index][1] + 1) or left[index] == 0 or wanted[week] == 0:
                return False
            left[index] -= 1
            wanted[week] -= 1
    return True


def least_shortage(lots, demand):
    """Try every way to meet each week's demand from the usable lots: the least total shortage of all."""
    rows = rows_of(lots)
    reached = {tuple(amount for _, _, amount in rows): 0}
    for week, wanted in enumerate(demand):
        following = {}
        for left, short in reached.items():
            most = [kept if first <= week <= last else 0 for kept, (first, last, _) in zip(left, rows)]
            for taken in itertools.product(*[range(amount + 1) for amount in most]):
                if sum(taken) <= wanted:
                    after = tuple(kept - amount for kept, amount in zip(left, taken))
                    unmet = short + wanted - sum(taken)
                    following[after] = min(unmet, following.get(after, unmet))
        reached = following
    return min(reached.values())


def small_inputs():
    """Every input of at most two lots and two weeks with small numbers."""
    single = [[first, last, amount] for last in range(4) for first in range(last + 1) for amount in (0, 1, 3)]
    lot_lists = [[]] + single + [one + other for one, other in itertools.product(single, repeat=2)]
    demands = [[one] for one in (0, 2, 4)] + [[one, other] for one in (0, 2) for other in (1, 2, 4)]
    return itertools.product(RULES, lot_lists, demands)


def varied_inputs(count=3000):
    """Inputs of up to six lots and ten weeks, the same ones in every run."""
    source = random.Random(20)
    for _ in range(count):
        weeks = source.randint(1, 10)
        highest = source.choice((3, 12, 99))
        latest = source.choice((weeks - 1, weeks, weeks + 2, 99))
        lots = []
        for _ in range(source.randint(0, 6)):
            first, last = sorted((source.randint(0, latest), source.randint(0, latest)))
            lots += [first, last, source.randint(0, highest)]
        yield source.choice(RULES), lots, [source.randint(0, highest) for _ in range(weeks)]


def inputs_to_try_out(count=300):
    """Inputs so small that every way to issue can be tried, the same ones in every run."""
    source = random.Random(22)
    for _ in range(count):
        lots = []
        for _ in range(source.randint(0, 4)):
            first, last = sorted((source.randint(0, 4), source.randint(0, 4)))
            lots += [first, last, source.randint(0, 3)]
        yield lots, [source.randint(0, 4) for _ in range(source.randint(1, 4))]


class UnchangingList(list):
    """A list that fails at once when it is changed, if only for a while."""

    def refuse(self, *args, **kwargs):
        raise AssertionError("a list that was handed in was changed")

    append = extend = insert = pop = remove = clear = sort = reverse = refuse
    __setitem__ = __delitem__ = __iadd__ = __imul__ = refuse
