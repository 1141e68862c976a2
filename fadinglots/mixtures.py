"""The operations on mixtures of lots, each lot losing strength at its own rate."""

OUTSIDE_LIMITS = -22
NO_WEIGHT = -6
NO_SUCH_MONTH = -33
NO_STRENGTH = -33

NUMBERS_PER_LOT = 4
MOST_LOTS = 6
MOST_WEIGHT = 99
MOST_STRENGTH = 999
MOST_DEN = 20
LAST_MONTH = 40
LAST_MONTH_OF_RETENTION = 39
MOST_THRESHOLD = 999
LEAST_FACTOR = 1
MOST_FACTOR = 99


class Lot:
    """A lot: each month it keeps num / den of its strength."""

    def __init__(self, weight, strength, num, den):
        self.weight = weight
        self.strength = strength
        self.num = num
        self.den = den


def mean_strength(mask, month, lots):
    """Answer 0 and the mean strength of the set in the month, or an error code."""
    refusal = find_refusal(mask, month, 0, LAST_MONTH, lots)
    if refusal != 0:
        return [refusal]
    mean = mean_in_month(chosen_lots(mask, lots), month)
    return [0] + in_lowest_terms(mean[0], mean[1])


def last_month_at(mask, threshold, lots):
    """Answer the last month in which the mean strength is at least the threshold, or an error code."""
    refusal = find_refusal(mask, threshold, 0, MOST_THRESHOLD, lots)
    if refusal != 0:
        return [refusal]
    chosen = chosen_lots(mask, lots)
    for month in range(LAST_MONTH, -1, -1):
        if is_at_least(mean_in_month(chosen, month), threshold):
            return [month]
    return [NO_SUCH_MONTH]


def heaviest_set(threshold, month, lots):
    """Answer the weight and the mask of the heaviest set with a mean of at least the threshold, or an error code."""
    if not are_lots_within_limits(lots):
        return [OUTSIDE_LIMITS]
    if not is_within(0, threshold, MOST_THRESHOLD) or not is_within(0, month, LAST_MONTH):
        return [OUTSIDE_LIMITS]
    most_weight = 0
    best_mask = 0
    for mask in range(1 << count_lots(lots)):
        chosen = chosen_lots(mask, lots)
        weight = total_weight(chosen)
        # Only a heavier set takes the place: the smallest mask of a weight stays, and no weight of 0 is divided by.
        if weight > most_weight and is_at_least(mean_in_month(chosen, month), threshold):
            most_weight = weight
            best_mask = mask
    return [most_weight, best_mask]


def retention(mask, month, lots):
    """Answer 0 and the part of the mean strength that is left a month later, or an error code."""
    refusal = find_refusal(mask, month, 0, LAST_MONTH_OF_RETENTION, lots)
    if refusal != 0:
        return [refusal]
    chosen = chosen_lots(mask, lots)
    before = mean_in_month(chosen, month)
    if before[0] == 0:
        return [NO_STRENGTH]
    after = mean_in_month(chosen, month + 1)
    return [0] + in_lowest_terms(after[0] * before[1], after[1] * before[0])


def first_month_reduced(mask, factor, lots):
    """Answer the first month in which factor times the mean strength is at most that of month 0, or an error code."""
    refusal = find_refusal(mask, factor, LEAST_FACTOR, MOST_FACTOR, lots)
    if refusal != 0:
        return [refusal]
    chosen = chosen_lots(mask, lots)
    first = mean_in_month(chosen, 0)
    for month in range(LAST_MONTH + 1):
        if is_reduced(mean_in_month(chosen, month), factor, first):
            return [month]
    return [NO_SUCH_MONTH]


def order_by_strength(month, lots):
    """Answer the number of lots and all lots by decreasing strength in the month, or an error code."""
    if not are_lots_within_limits(lots) or not is_within(0, month, LAST_MONTH):
        return [OUTSIDE_LIMITS]
    count = count_lots(lots)
    strengths = comparable_strengths(month, lots)
    return [count] + sorted(range(count), key=lambda place: (-strengths[place], place))


def find_refusal(mask, number, least, most, lots):
    """Give the first error code that applies, or 0; number is to be from least to most."""
    if not are_lots_within_limits(lots):
        return OUTSIDE_LIMITS
    if not is_within(least, number, most):
        return OUTSIDE_LIMITS
    if has_unknown_lot(mask, lots):
        return OUTSIDE_LIMITS
    if total_weight(chosen_lots(mask, lots)) == 0:
        return NO_WEIGHT
    return 0


def are_lots_within_limits(lots):
    """Tell whether the list is that of 0 to 6 whole lots with values in their limits."""
    if len(lots) % NUMBERS_PER_LOT != 0 or len(lots) > MOST_LOTS * NUMBERS_PER_LOT:
        return False
    for place in range(count_lots(lots)):
        if not is_lot_within_limits(lot_at(place, lots)):
            return False
    return True


def is_lot_within_limits(lot):
    """Tell whether each value of the lot is in its limits."""
    if not is_within(0, lot.weight, MOST_WEIGHT) or not is_within(0, lot.strength, MOST_STRENGTH):
        return False
    return is_within(1, lot.num, lot.den) and lot.den <= MOST_DEN


def is_within(least, number, most):
    """Tell whether the number is at least the one and at most the other."""
    return least <= number and number <= most


def has_unknown_lot(mask, lots):
    """Tell whether the mask has a bit beyond the last lot."""
    return (mask >> count_lots(lots)) != 0


def count_lots(lots):
    """Give the number of lots in the list of numbers."""
    return len(lots) // NUMBERS_PER_LOT


def lot_at(place, lots):
    """Give the lot of this number, counted from 0."""
    start = place * NUMBERS_PER_LOT
    return Lot(lots[start], lots[start + 1], lots[start + 2], lots[start + 3])


def all_lots(lots):
    """Give every lot, by rising number."""
    return [lot_at(place, lots) for place in range(count_lots(lots))]


def chosen_lots(mask, lots):
    """Give the lots of the set, by rising number."""
    chosen = []
    for place in range(count_lots(lots)):
        if ((mask >> place) & 1) == 1:
            chosen.append(lot_at(place, lots))
    return chosen


def total_weight(chosen):
    """Give the sum of the weights."""
    weight = 0
    for lot in chosen:
        weight = weight + lot.weight
    return weight


def comparable_strengths(month, lots):
    """Give each lot's strength in the month, all times one common denominator: whole numbers that compare exactly."""
    every = all_lots(lots)
    common = 1
    for lot in every:
        common = common * power(lot.den, month)
    strengths = []
    for lot in every:
        strengths.append(lot.strength * power(lot.num, month) * (common // power(lot.den, month)))
    return strengths


def mean_in_month(chosen, month):
    """Give the mean strength as numerator and denominator, not reduced; the total weight is not to be 0."""
    top = 0
    bottom = 1
    for lot in chosen:
        parts = power(lot.den, month)
        kept = power(lot.num, month)
        top = top * parts + lot.weight * lot.strength * kept * bottom
        bottom = bottom * parts
    return [top, bottom * total_weight(chosen)]


def is_at_least(mean, threshold):
    """Tell whether the mean, a numerator and a denominator, is the threshold or more."""
    return mean[0] >= threshold * mean[1]


def is_reduced(mean, factor, first):
    """Tell whether factor times the mean is at most the first mean; each is a numerator and a denominator."""
    return factor * mean[0] * first[1] <= first[0] * mean[1]


def power(base, exponent):
    """Multiply the base with itself, exponent times over."""
    product = 1
    for turn in range(exponent):
        product = product * base
    return product


def in_lowest_terms(top, bottom):
    """Give top / bottom as numerator and denominator without a common divisor; 0 as 0 and 1."""
    divisor = greatest_common_divisor(top, bottom)
    return [top // divisor, bottom // divisor]


def greatest_common_divisor(first, second):
    """Give the greatest number that divides both, by Euclid's steps."""
    while second != 0:
        rest = first % second
        first = second
        second = rest
    return first
