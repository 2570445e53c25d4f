"""The operations on lots of a perishable product and on the demand of the weeks."""

from freshlots.limits import NUMBERS_PER_LOT, issuing_in_limits


class Lot:
    """The first and the last week in which a lot is usable, and its amount."""

    def __init__(self, first, last, amount):
        self.first = first
        self.last = last
        self.amount = amount


def shortages(rule, lots, demand):
    """Answer the total shortage, then the shortage of each week."""
    if not issuing_in_limits(rule, lots, demand):
        return out_of_limits()
    taken = issue_all_weeks(rule, read_lots(lots), demand)
    unmet = [wanted - sum(amounts) for wanted, amounts in zip(demand, taken)]
    return [sum(unmet)] + unmet


def remaining(rule, lots, demand):
    """Answer the total waste, then what remains of each lot after the last week."""
    if not issuing_in_limits(rule, lots, demand):
        return out_of_limits()
    stock = read_lots(lots)
    left = [lot.amount for lot in stock]
    for amounts in issue_all_weeks(rule, stock, demand):
        left = subtract(left, amounts)
    wasted = [amount for lot, amount in zip(stock, left) if lot.last < len(demand)]
    return [sum(wasted)] + left


def out_of_limits():
    """Answer the refusal of an argument that is outside its limits."""
    return [-22]


def read_lots(lots):
    """Make a Lot of each three numbers of the flat list."""
    return [Lot(lots[start], lots[start + 1], lots[start + 2]) for start in range(0, len(lots), NUMBERS_PER_LOT)]


def order_of_use(rule, stock):
    """Answer the indexes of the lots in the order in which the rule uses them."""
    if rule == 0:
        return sorted(range(len(stock)), key=lambda index: (stock[index].last, index))
    return sorted(range(len(stock)), key=lambda index: (-stock[index].last, index))


def issue_all_weeks(rule, stock, demand):
    """Answer, for each week, the list of the amounts that are taken from each lot."""
    order = order_of_use(rule, stock)
    left = [lot.amount for lot in stock]
    taken = []
    for week, wanted in enumerate(demand):
        usable = [index for index in order if stock[index].first <= week <= stock[index].last]
        amounts = issue_one_week(wanted, usable, left)
        left = subtract(left, amounts)
        taken.append(amounts)
    return taken


def issue_one_week(wanted, usable, left):
    """Answer the amount taken from each lot when the usable ones are drawn on in turn."""
    amounts = [0] * len(left)
    unmet = wanted
    for index in usable:
        amounts[index] = min(unmet, left[index])
        unmet = unmet - amounts[index]
    return amounts


def subtract(left, amounts):
    """Answer what is left of each lot once the amounts are taken."""
    return [before - amount for before, amount in zip(left, amounts)]
