"""The limits of what is handed in."""

NUMBERS_PER_LOT = 3
MOST_LOTS = 6
MOST_WEEKS = 10
HIGHEST_LAST_WEEK = 99
HIGHEST_AMOUNT = 99
HIGHEST_RULE = 1


def lots_in_limits(lots):
    """Tell whether the flat list of lots is within its limits."""
    if len(lots) % NUMBERS_PER_LOT != 0 or len(lots) > MOST_LOTS * NUMBERS_PER_LOT:
        return False
    for start in range(0, len(lots), NUMBERS_PER_LOT):
        if not lot_in_limits(lots[start], lots[start + 1], lots[start + 2]):
            return False
    return True


def lot_in_limits(first, last, amount):
    """Tell whether one lot is within its limits."""
    # The first week needs no bound of its own: the last one, which is not earlier, has it.
    return first <= last <= HIGHEST_LAST_WEEK and amount <= HIGHEST_AMOUNT


def demand_in_limits(demand):
    """Tell whether the demand is within its limits."""
    return 1 <= len(demand) <= MOST_WEEKS and max(demand) <= HIGHEST_AMOUNT


def stock_in_limits(lots, demand):
    """Tell whether both the lots and the demand are within their limits."""
    return lots_in_limits(lots) and demand_in_limits(demand)


def issuing_in_limits(rule, lots, demand):
    """Tell whether all that issuing by a rule needs is within its limits."""
    return stock_in_limits(lots, demand) and rule <= HIGHEST_RULE


def mask_in_limits(mask, demand):
    """Tell whether the mask contains no other weeks than those of the demand."""
    return mask < (1 << len(demand))


def table_in_limits(table):
    """Tell whether every amount of the table is within its limits, whatever its length."""
    return all([amount <= HIGHEST_AMOUNT for amount in table])
