"""Two rows of points, each seen in a picture: the calls on them, and what is answered.

A point is a tuple of two whole numbers, u and v; a row is a list of points. Every point handed in has 1 for
its third number, so that number isn't kept.
"""

START = 0
GENERAL = 1
ALIKE = 2
ORDER = 3
ORDERS = 4
RATIOS = 5
OWN = 6
TAKES = 7
BACK = 8
LINES = 9
DIFFER = 10
SWAP = 11
STATE = 12

# How many numbers stand behind each call's number. The 0 of start stands for nothing, as its rows bring their own
# counts.
WIDTHS = (0, 0, 0, 0, 0, 2, 1, 2, 2, 1, 0, 0, 0)

NO_POINT = -2
BEYOND_ALL = -6
NOT_STARTED = -11
NOT_GOOD = -16
WRONG = -22
NONE_FITS = -33
ARE_ALIKE = -33

FEWEST_POINTS = 4
MOST_POINTS = 6
GREATEST = 50
LAST_ROW = 1


def turn(a, b, c):
    """The determinant of three points: 0 just if they are on a line."""
    return (b[0] - a[0]) * (c[1] - a[1]) - (b[1] - a[1]) * (c[0] - a[0])


def threes_on_a_line(points):
    """The numbers of each three that are on a line, all in one list; the threes are rising."""
    size = len(points)
    found = []
    for a in range(size):
        for b in range(a + 1, size):
            for c in range(b + 1, size):
                if turn(points[a], points[b], points[c]) == 0:
                    found.extend([a, b, c])
    return found


def no_three_on_a_line(points):
    return len(threes_on_a_line(points)) == 0


def is_good(row):
    return no_three_on_a_line(row[:4])


def both_good(rows):
    return is_good(rows[0]) and is_good(rows[1])


def shares(four, point):
    """How often the point has each of the first three of the four, up to a factor."""
    a = four[0]
    b = four[1]
    c = four[2]
    return (turn(point, b, c), turn(a, point, c), turn(a, b, point))


def weights(four, point):
    """How often the point has each of the first three, so weighed that the fourth is all three together.

    The three are told up to a factor, and never all 0. Each would be a share of the point divided by one of the
    fourth; they are multiplied by all three divisors, to stay among whole numbers.
    """
    own = shares(four, point)
    whole = shares(four, four[3])
    return (
        own[0] * whole[1] * whole[2],
        own[1] * whole[0] * whole[2],
        own[2] * whole[0] * whole[1],
    )


def weighed(four, found):
    """The three numbers, up to a factor, of the point that has these weights by the four."""
    whole = shares(four, four[3])
    u = 0
    v = 0
    third = 0
    for number in range(3):
        times = found[number] * whole[number]
        u = u + times * four[number][0]
        v = v + times * four[number][1]
        third = third + times
    return (u, v, third)


def same_up_to_factor(s, t):
    return s[0] * t[1] == s[1] * t[0] and s[0] * t[2] == s[2] * t[0] and s[1] * t[2] == s[2] * t[1]


def first_elsewhere(first, second):
    """The first point that isn't taken to the one of its number; how many there are, if each is.

    A view keeps the weights, so they tell where a point is taken; the view itself isn't needed.
    """
    for number in range(4, len(first)):
        here = weights(first[:4], first[number])
        there = weights(second[:4], second[number])
        if not same_up_to_factor(here, there):
            return number
    return len(first)


def are_alike(first, second):
    return first_elsewhere(first, second) == len(first)


def lengthened(heads, size):
    """Every head with each number that it lacks behind it; heads in rising order stay in rising order."""
    longer = []
    for head in heads:
        for number in range(size):
            if number not in head:
                longer.append(head + [number])
    return longer


def makes_good_four(second, head):
    return no_three_on_a_line([second[number] for number in head])


def takes_last(aim, second, head):
    """Whether the last number of the head is that of a point with the weights aimed at."""
    four = [second[number] for number in head[:4]]
    return same_up_to_factor(aim, weights(four, second[head[-1]]))


def fitting_orders(first, second):
    """All orders in which the first row, which is good, fits; rising.

    The orders grow by one number at a time, and those that can't fit any more are dropped on the way.
    """
    size = len(first)
    heads = [[]]
    for place in range(size):
        heads = lengthened(heads, size)
        if place == 3:
            heads = [head for head in heads if makes_good_four(second, head)]
        if place > 3:
            aim = weights(first[:4], first[place])
            heads = [head for head in heads if takes_last(aim, second, head)]
    return heads


def common_divisor(a, b):
    greater = abs(a)
    lesser = abs(b)
    while lesser != 0:
        rest = greater % lesser
        greater = lesser
        lesser = rest
    return greater


def fraction(above, below):
    divisor = common_divisor(above, below)
    if below < 0:
        divisor = -divisor
    return [above // divisor, below // divisor]


def is_number_of_point(number):
    return number >= 0 and number <= GREATEST


def swapped(rows):
    """The rows exchanged; none, if there are none yet."""
    return rows[1:] + rows[:1]


def answer_general(rows):
    total = 0
    if no_three_on_a_line(rows[0]):
        total = total + 1
    if no_three_on_a_line(rows[1]):
        total = total + 2
    return [total]


def answer_alike(rows):
    if not both_good(rows):
        return [NOT_GOOD]
    if are_alike(rows[0], rows[1]):
        return [1]
    return [0]


def answer_order(rows):
    if not both_good(rows):
        return [NOT_GOOD]
    fitting = fitting_orders(rows[0], rows[1])
    if len(fitting) == 0:
        return [NONE_FITS]
    return [len(rows[0])] + fitting[0]


def answer_orders(rows):
    if not both_good(rows):
        return [NOT_GOOD]
    return [len(fitting_orders(rows[0], rows[1]))]


def answer_own(rows, k):
    if k > LAST_ROW:
        return [WRONG]
    if not is_good(rows[k]):
        return [NOT_GOOD]
    return [len(fitting_orders(rows[k], rows[k]))]


def answer_ratios(rows, k, number):
    if k > LAST_ROW:
        return [WRONG]
    row = rows[k]
    if number < 4 or number >= len(row):
        return [NO_POINT]
    if not is_good(row):
        return [NOT_GOOD]
    found = weights(row[:4], row[number])
    if found[2] == 0:
        return [BEYOND_ALL]
    return [0] + fraction(found[0], found[2]) + fraction(found[1], found[2])


def answer_takes(rows, u, v):
    if not is_number_of_point(u) or not is_number_of_point(v):
        return [WRONG]
    if not both_good(rows):
        return [NOT_GOOD]
    found = weighed(rows[1][:4], weights(rows[0][:4], (u, v)))
    if found[2] == 0:
        return [BEYOND_ALL]
    return [0] + fraction(found[0], found[2]) + fraction(found[1], found[2])


def answer_lines(rows, k):
    if k > LAST_ROW:
        return [WRONG]
    found = threes_on_a_line(rows[k])
    return [len(found) // 3] + found


def answer_differ(rows):
    if not both_good(rows):
        return [NOT_GOOD]
    number = first_elsewhere(rows[0], rows[1])
    if number == len(rows[0]):
        return [ARE_ALIKE]
    return [number]


def answer_state(rows):
    told = [len(rows[0])]
    for row in rows:
        for point in row:
            told.extend([point[0], point[1]])
    return told


def answer(rows, call, handed):
    """What a call other than start answers; there are no rows ahead of a start that isn't refused."""
    if len(rows) == 0:
        return [NOT_STARTED]
    if call == GENERAL:
        return answer_general(rows)
    if call == ALIKE:
        return answer_alike(rows)
    if call == ORDER:
        return answer_order(rows)
    if call == ORDERS:
        return answer_orders(rows)
    if call == RATIOS:
        return answer_ratios(rows, handed[0], handed[1])
    if call == OWN:
        return answer_own(rows, handed[0])
    if call == TAKES:
        return answer_takes(rows, handed[0], handed[1])
    if call == BACK:
        return answer_takes(swapped(rows), handed[0], handed[1])
    if call == LINES:
        return answer_lines(rows, handed[0])
    if call == DIFFER:
        return answer_differ(rows)
    if call == STATE:
        return answer_state(rows)
    # What is left is swap: the rows are exchanged where they are kept.
    return [0]


def may_be_row(numbers):
    if len(numbers) % 2 != 0:
        return False
    if len(numbers) < 2 * FEWEST_POINTS or len(numbers) > 2 * MOST_POINTS:
        return False
    for number in numbers:
        if not is_number_of_point(number):
            return False
    return True


def points_of(numbers):
    return [(numbers[at], numbers[at + 1]) for at in range(0, len(numbers), 2)]


def started(first, second):
    """The two rows of a start; an empty list if it is refused."""
    if len(first) != len(second):
        return []
    if not may_be_row(first) or not may_be_row(second):
        return []
    return [points_of(first), points_of(second)]


def counted(calls, place):
    """The numbers whose count stands at the place."""
    return calls[place + 1:place + 1 + calls[place]]


def answers(calls):
    told = []
    rows = []
    place = 0
    while place < len(calls):
        call = calls[place]
        if call == START:
            first = counted(calls, place + 1)
            second = counted(calls, place + 2 + len(first))
            place = place + 3 + len(first) + len(second)
            fresh = started(first, second)
            reply = [WRONG]
            if len(fresh) > 0:
                rows = fresh
                reply = [len(rows[0])]
        else:
            beyond = place + 1 + WIDTHS[call]
            reply = answer(rows, call, calls[place + 1:beyond])
            place = beyond
            if call == SWAP:
                rows = swapped(rows)
        told.append(len(reply))
        told.extend(reply)
    return told
