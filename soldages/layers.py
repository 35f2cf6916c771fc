"""The prices of the units of a priced log that are left by the two rules, by each sale and by the period."""


def left_prices(goods, rule):
    """Return the prices of the units that are left by each sale."""
    return left_by_period(goods, rule, list(range(len(goods.days))))


def left_by_period(goods, rule, ends):
    """Return the prices of the units that are left by the period, for the last days of the periods."""
    there = []
    first = 0
    for end in ends:
        days = goods.days[first:end + 1]
        for prices, _ in days:
            there.extend(prices)
        sold = sum([left for _, left in days])
        # Units stand in the order in which they came, so both rules take theirs from one end.
        there = there[sold:] if rule == "oldest" else there[:len(there) - sold]
        first = end + 1
    return there


def value_of(prices):
    """Return the sum of a list of prices."""
    return sum(prices)
