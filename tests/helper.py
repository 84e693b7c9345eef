"""What the tests share: writing calls, parting answers, and a slow second way to reckon every answer.

The second way makes the view itself, by solving for its nine numbers in fractions, and goes through all orders.
"""

from fractions import Fraction
from itertools import combinations, permutations

from twothings.orders import answers

GENERAL = [1]
ALIKE = [2]
ORDER = [3]
ORDERS = [4]
DIFFER = [10]
SWAP = [11]
STATE = [12]


def ratios(k, i):
    return [5, k, i]


def own(k):
    return [6, k]


def takes(u, v):
    return [7, u, v]


def back(u, v):
    return [8, u, v]


def lines(k):
    return [9, k]


def flat(points):
    return [number for point in points for number in point]


def start_numbers(l, m):
    return [0, len(l)] + list(l) + [len(m)] + list(m)


def start(first, second):
    return start_numbers(flat(first), flat(second))


def parted(told):
    """The answers as a list for each call."""
    parts = []
    place = 0
    while place < len(told):
        count = told[place]
        parts.append(told[place + 1:place + 1 + count])
        if len(parts[-1]) != count or count < 1:
            raise AssertionError("the counts don't fit the answers")
        place += 1 + count
    return parts


def ask(*calls):
    return parted(answers([number for call in calls for number in call]))


def ask_rows(first, second, *calls):
    """The answers to the calls behind a start that isn't refused."""
    told = ask(start(first, second), *calls)
    if told[0] != [len(first)]:
        raise AssertionError("the start was refused")
    return told[1:]


def seen(view, points):
    """The points as the view shows them; they must come out whole."""
    result = []
    for u, v in points:
        x, y, z = [row[0] * u + row[1] * v + row[2] for row in view]
        if z == 0 or x % z or y % z:
            raise AssertionError("no whole point")
        result.append((x // z, y // z))
    return result


def reduced(rows):
    """Gauss and Jordan: the rows in reduced form, and the column of each one's leading 1."""
    rows = [[Fraction(x) for x in row] for row in rows]
    leads = []
    for column in range(len(rows[0])):
        at = len(leads)
        pick = next((r for r in range(at, len(rows)) if rows[r][column] != 0), None)
        if pick is None:
            continue
        rows[at], rows[pick] = rows[pick], rows[at]
        lead = rows[at][column]
        rows[at] = [x / lead for x in rows[at]]
        for r in range(len(rows)):
            if r != at and rows[r][column] != 0:
                times = rows[r][column]
                rows[r] = [x - times * y for x, y in zip(rows[r], rows[at])]
        leads.append(column)
        if len(leads) == len(rows):
            break
    return rows, leads


def view_between(four, aims):
    """The nine numbers of the one view that takes the four points to the four aims."""
    wanted = []
    for (u, v), (x, y) in zip(four, aims):
        wanted.append([u, v, 1, 0, 0, 0, -x * u, -x * v, -x])
        wanted.append([0, 0, 0, u, v, 1, -y * u, -y * v, -y])
    rows, leads = reduced(wanted)
    free = [column for column in range(9) if column not in leads]
    if len(free) != 1:
        raise AssertionError("not just one view")
    numbers = [Fraction(0)] * 9
    numbers[free[0]] = Fraction(1)
    for row, lead in zip(rows, leads):
        numbers[lead] = -row[free[0]]
    return [numbers[0:3], numbers[3:6], numbers[6:9]]


def on_a_line(p, q, r):
    """Whether r is where the line through p and q is, or there's no one such line."""
    a = p[1] - q[1]
    b = q[0] - p[0]
    return a * r[0] + b * r[1] == a * p[0] + b * p[1]


def slow_free(points):
    return not any(on_a_line(*three) for three in combinations(points, 3))


def slow_general(first, second):
    return [slow_free(first) * 1 + slow_free(second) * 2]


def slow_lines(row):
    found = [three for three in combinations(range(len(row)), 3) if on_a_line(*[row[number] for number in three])]
    return [len(found)] + flat(found)


def taken(view, point):
    """Where the view takes the point; None if that's beyond all."""
    s, t, w = [row[0] * point[0] + row[1] * point[1] + row[2] for row in view]
    if w == 0:
        return None
    return (Fraction(s) / w, Fraction(t) / w)


def takes_all(view, points, aims):
    return all(taken(view, point) == aim for point, aim in zip(points, aims))


def slow_alike(first, second):
    if not (slow_free(first[:4]) and slow_free(second[:4])):
        return [-16]
    return [1 if takes_all(view_between(first[:4], second[:4]), first, second) else 0]


def slow_differ(first, second):
    if not (slow_free(first[:4]) and slow_free(second[:4])):
        return [-16]
    view = view_between(first[:4], second[:4])
    for number, (point, aim) in enumerate(zip(first, second)):
        if taken(view, point) != aim:
            return [number]
    return [-33]


def told_as_fractions(two):
    return [0, two[0].numerator, two[0].denominator, two[1].numerator, two[1].denominator]


def slow_takes(first, second, u, v):
    if not (0 <= u <= 50 and 0 <= v <= 50):
        return [-22]
    if not (slow_free(first[:4]) and slow_free(second[:4])):
        return [-16]
    aim = taken(view_between(first[:4], second[:4]), (u, v))
    return [-6] if aim is None else told_as_fractions(aim)


def slow_fitting(first, second):
    """All orders in which the first row fits; the view is made once for each four that may be ahead."""
    views = {}
    found = []
    for order in permutations(range(len(second))):
        again = [second[number] for number in order]
        if slow_free(again[:4]):
            if order[:4] not in views:
                views[order[:4]] = view_between(first[:4], again[:4])
            if takes_all(views[order[:4]], first, again):
                found.append(list(order))
    return found


def slow_order(first, second):
    if not (slow_free(first[:4]) and slow_free(second[:4])):
        return [-16]
    found = slow_fitting(first, second)
    return [len(first)] + min(found) if found else [-33]


def slow_orders(first, second):
    if not (slow_free(first[:4]) and slow_free(second[:4])):
        return [-16]
    return [len(slow_fitting(first, second))]


def slow_own(row):
    return [len(slow_fitting(row, row))] if slow_free(row[:4]) else [-16]


def put_together(three, point):
    """How often the point has each of the three, told by three numbers each."""
    rows = [[p[0] for p in three] + [point[0]], [p[1] for p in three] + [point[1]], [1, 1, 1, 1]]
    return [row[3] for row in reduced(rows)[0]]


def slow_ratios(row, number):
    if number < 4 or number >= len(row):
        return [-2]
    if not slow_free(row[:4]):
        return [-16]
    unit = put_together(row[:3], row[3])
    often = [x / y for x, y in zip(put_together(row[:3], row[number]), unit)]
    if often[2] == 0:
        return [-6]
    return told_as_fractions((often[0] / often[2], often[1] / often[2]))
