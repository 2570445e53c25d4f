"""The operations on lots of a perishable product and on the demand of the weeks."""

from freshlots.limits import NUMBERS_PER_LOT, issuing_in_limits, mask_in_limits, stock_in_limits, table_in_limits

EARLIEST_EXPIRY = 0


class Lot:
    """The first and the last week in which a lot is usable, and its amount."""

    def __init__(self, first, last, amount):
        self.first = first
        self.last = last
        self.amount = amount

    def usable_in(self, week):
        """Tell whether the lot is usable in the week."""
        return self.first <= week <= self.last


def shortages(rule, lots, demand):
    """Answer the total shortage, then the shortage of each week."""
    if not issuing_in_limits(rule, lots, demand):
        return out_of_limits()
    unmet = shortage_of_weeks(rule, read_lots(lots), demand)
    return [sum(unmet)] + unmet


def remaining(rule, lots, demand):
    """Answer the total waste, then what remains of each lot after the last week."""
    if not issuing_in_limits(rule, lots, demand):
        return out_of_limits()
    stock = read_lots(lots)
    left = [lot.amount for lot in stock]
    for amounts in issue_all_weeks(rule, stock, demand):
        left = subtract(left, amounts)
    wasted = [amount for lot, amount in zip(stock, left) if lot.last < len(demand)]
    return [sum(wasted)] + left


def issued_in_week(rule, week, lots, demand):
    """Answer the number of lots, then the amount that is taken from each lot in the week."""
    if not issuing_in_limits(rule, lots, demand):
        return out_of_limits()
    if week >= len(demand):
        return does_not_exist()
    amounts = issue_all_weeks(rule, read_lots(lots), demand)[week]
    return [len(amounts)] + amounts


def best_proof(lots, demand):
    """Answer the greatest proven shortage of a set of weeks, then the smallest mask that has it."""
    if not stock_in_limits(lots, demand):
        return out_of_limits()
    stock = read_lots(lots)
    shortage = 0
    smallest = 0
    for mask in range(1 << len(demand)):
        proven = proven_by(mask, stock, demand)
        # Only a greater one counts: of masks that prove the same, the smallest has come first.
        if proven > shortage:
            shortage = proven
            smallest = mask
    return [shortage, smallest]


def proven_shortage(mask, lots, demand):
    """Answer the shortage that the set of weeks of the mask proves."""
    if not stock_in_limits(lots, demand) or not mask_in_limits(mask, demand):
        return out_of_limits()
    return [proven_by(mask, read_lots(lots), demand)]


def check_plan(lots, demand, table):
    """Answer 1 for a feasible plan and 0 for another, then the demand that the plan leaves unmet."""
    if not stock_in_limits(lots, demand) or not table_in_limits(table):
        return out_of_limits()
    unmet = max(0, sum(demand) - sum(table))
    if is_feasible(read_lots(lots), demand, table):
        return [1, unmet]
    return [0, unmet]


def shortage_saved(lot, lots, demand):
    """Answer how much smaller the total shortage of rule 0 is with one more unit of the lot."""
    if not stock_in_limits(lots, demand):
        return out_of_limits()
    stock = read_lots(lots)
    if lot >= len(stock):
        return does_not_exist()
    before = sum(shortage_of_weeks(EARLIEST_EXPIRY, stock, demand))
    after = sum(shortage_of_weeks(EARLIEST_EXPIRY, with_one_more(lot, stock), demand))
    return [before - after]


def out_of_limits():
    """Answer the refusal of an argument that is outside its limits."""
    return [-22]


def does_not_exist():
    """Answer the refusal of a week or a lot that doesn't exist."""
    return [-2]


def read_lots(lots):
    """Make a Lot of each three numbers of the flat list."""
    return [Lot(lots[start], lots[start + 1], lots[start + 2]) for start in range(0, len(lots), NUMBERS_PER_LOT)]


def with_one_more(lot, stock):
    """Answer the lots with one more unit of the lot."""
    # The limits hold for what is handed in: the amount may well be one above the highest here.
    chosen = stock[lot]
    return stock[:lot] + [Lot(chosen.first, chosen.last, chosen.amount + 1)] + stock[lot + 1:]


def order_of_use(rule, stock):
    """Answer the indexes of the lots in the order in which the rule uses them."""
    if rule == EARLIEST_EXPIRY:
        return sorted(range(len(stock)), key=lambda index: (stock[index].last, index))
    return sorted(range(len(stock)), key=lambda index: (-stock[index].last, index))


def issue_all_weeks(rule, stock, demand):
    """Answer, for each week, the list of the amounts that are taken from each lot."""
    order = order_of_use(rule, stock)
    left = [lot.amount for lot in stock]
    taken = []
    for week, wanted in enumerate(demand):
        usable = [index for index in order if stock[index].usable_in(week)]
        amounts = issue_one_week(wanted, usable, left)
        left = subtract(left, amounts)
        taken.append(amounts)
    return taken


def issue_one_week(wanted, usable, left):
    """Answer the amount taken from each lot when the usable ones are drawn on in turn."""
    amounts = [0] * len(left)
    unmet = wanted
    for index in usable:
        amounts[index] = min(unmet, left[index])
        unmet = unmet - amounts[index]
    return amounts


def shortage_of_weeks(rule, stock, demand):
    """Answer the shortage of each week."""
    taken = issue_all_weeks(rule, stock, demand)
    return [wanted - sum(amounts) for wanted, amounts in zip(demand, taken)]


def subtract(left, amounts):
    """Answer what is left of each lot once the amounts are taken."""
    return [before - amount for before, amount in zip(left, amounts)]


def proven_by(mask, stock, demand):
    """Answer the shortage that the set of weeks of the mask proves."""
    weeks = [week for week in range(len(demand)) if mask & (1 << week) != 0]
    wanted = sum([demand[week] for week in weeks])
    usable = sum([lot.amount for lot in stock if any([lot.usable_in(week) for week in weeks])])
    return max(0, wanted - usable)


def is_feasible(stock, demand, table):
    """Tell whether the table is a plan that the lots and the demand allow."""
    if len(table) != len(demand) * len(stock):
        return False
    plan = [table[week * len(stock):(week + 1) * len(stock)] for week in range(len(demand))]
    for week, wanted in enumerate(demand):
        if sum(plan[week]) > wanted or uses_unusable(stock, week, plan[week]):
            return False
    for index, lot in enumerate(stock):
        if sum([amounts[index] for amounts in plan]) > lot.amount:
            return False
    return True


def uses_unusable(stock, week, amounts):
    """Tell whether something is taken from a lot that is not usable in the week."""
    return any([amount > 0 and not lot.usable_in(week) for lot, amount in zip(stock, amounts)])
