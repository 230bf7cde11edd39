"""The promises once more, by their words alone and by other ways of reckoning."""

from itertools import combinations, product
from math import comb


def rows(hands, places):
    return list(product(range(hands), repeat=places))


def some_rows():
    """All short rows, as pairs of hands and row."""
    return [
        (hands, row)
        for hands, longest in ((2, 8), (3, 5), (4, 4))
        for places in range(1, longest + 1)
        for row in rows(hands, places)
    ]


def total(row, hand, worths):
    return sum(worths[place] for place in range(len(row)) if row[place] == hand)


def powers(places, power):
    """Smooth worths: these of the powers up to a degree make up all others."""
    return tuple(place ** power for place in range(places))


def two_are_even(row, one, other, degree):
    return all(
        total(row, one, powers(len(row), power)) == total(row, other, powers(len(row), power))
        for power in range(degree + 1)
    )


def is_even(hands, row, degree):
    return all(two_are_even(row, one, other, degree) for one, other in combinations(range(hands), 2))


def evenness(hands, row):
    """Tried are more degrees than any row has places."""
    return max([-1] + [degree for degree in range(len(row) + 1) if is_even(hands, row, degree)])


def differences(worths, order):
    """By the binomial coefficients, with signs by turns."""
    return [
        sum((-1) ** (order - step) * comb(order, step) * worths[place + step] for step in range(order + 1))
        for place in range(len(worths) - order)
    ]


def sums(line, order):
    """By the binomial coefficients; of order 0 the line itself."""
    if order == 0:
        return list(line)
    return [
        sum(comb(place - back + order - 1, order - 1) * line[back] for back in range(place + 1))
        for place in range(len(line))
    ]


def signs(row, one, other):
    return [{one: 1, other: -1}.get(turn, 0) for turn in row]


def leads_of_gaps(row, one, other, order):
    """The leads at worths of which just one difference of the order is 1, all others 0."""
    found = []
    for gap in range(len(row) - order):
        worths = [comb(place - gap - 1, order - 1) if place > gap else 0 for place in range(len(row))]
        found.append(total(row, one, worths) - total(row, other, worths))
    return found


def greatest_of_two(row, one, other, order, bound):
    if not two_are_even(row, one, other, order - 1):
        return None
    return bound * sum(abs(lead) for lead in leads_of_gaps(row, one, other, order))


def greatest(hands, row, order, bound=1):
    found = [greatest_of_two(row, one, other, order, bound) for one, other in combinations(range(hands), 2)]
    return None if None in found else max(found)


def worths_within(places, order, bound, firsts):
    """All worths whose first ones are of firsts, and whose differences of the order are within the bound."""
    ahead = min(order, places)
    for begin in product(firsts, repeat=ahead):
        for gaps in product(range(-bound, bound + 1), repeat=places - ahead):
            yield gone_on(begin, gaps, order)


def unlike(row, other):
    return sum(1 for place in range(len(row)) if row[place] != other[place])


def swapped(row, one, other):
    return tuple(row[{one: other, other: one}.get(place, place)] for place in range(len(row)))


def mended(hands, row, order):
    """By all exchanges, each held against the best one ahead of it."""
    before, best = greatest(hands, row, order), None
    for one in range(len(row)):
        for other in range(one + 1, len(row)):
            if row[one] == row[other]:
                continue
            found = greatest(hands, swapped(row, one, other), order)
            if found is None or before is not None and found >= before:
                continue
            if best is None or found < best[2]:
                best = (one, other, found)
    return best


def nearest(hands, row, degree):
    best = None
    for other in rows(hands, len(row)):
        if is_even(hands, other, degree) and (best is None or unlike(other, row) < best[1]):
            best = (other, unlike(other, row))
    return best


def gone_on(told, gaps, order):
    """The worths told, and one more for each of the gaps, which are their differences of the order."""
    worths = list(told)
    for gap in gaps:
        back = sum((-1) ** step * comb(order, step) * worths[-step] for step in range(1, order + 1))
        worths.append(gap - back)
    return tuple(worths)


def all_gone_on(told, places, order, bound):
    """All worths that begin with those told, and whose differences beyond them are within the bound."""
    for gaps in product(range(-bound, bound + 1), repeat=places - len(told)):
        yield gone_on(told, gaps, order)


def foreseen(row, told, one, other, order, bound):
    """By what each single difference beyond the worths told adds to the lead."""
    straight = gone_on(told, (0,) * (len(row) - len(told)), order)
    reach = 0
    for beyond in range(len(told), len(row)):
        worths = [comb(place - beyond + order - 1, order - 1) if place >= beyond else 0 for place in range(len(row))]
        reach += bound * abs(total(row, one, worths) - total(row, other, worths))
    lead = total(row, one, straight) - total(row, other, straight)
    return lead - reach, lead + reach


def most_foreseen(hands, row, told, order, bound):
    return max(foreseen(row, told, one, other, order, bound)[1]
               for one in range(hands) for other in range(hands) if one != other)


def calming(hands, row, told, order, bound):
    """By all exchanges, each held against the best one ahead of it."""
    least, best = most_foreseen(hands, row, told, order, bound), None
    for one in range(len(told), len(row)):
        for other in range(one + 1, len(row)):
            if row[one] != row[other]:
                found = most_foreseen(hands, swapped(row, one, other), told, order, bound)
                if found < least:
                    least, best = found, (one, other, found)
    return best


def moments(hands, row, degree):
    return [[sum(place ** power for place in range(len(row)) if row[place] == hand) for power in range(degree + 1)]
            for hand in range(hands)]
