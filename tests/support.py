"""What the tests share: calls written out, answers taken apart, a second way to the batten."""

from fractions import Fraction

from battenlath.desk import answers

LOWEST = -9223372036854775808
HIGHEST = 9223372036854775807
LARGEST = 1048575


def make(places, heights, breadths):
    return [1, len(places)] + places + [len(heights)] + heights + [len(breadths)] + breadths


def at(way, k, p, q, what):
    return [2, way, k, p, q, what]


def near(way, k, x):
    return [3, way, k, x]


def piece(way, k, i):
    return [4, way, k, i]


def bending(way, k):
    return [5, way, k]


def turns(way, k):
    return [6, way, k]


def top(way, k):
    return [7, way, k]


def ask(*calls):
    """The answers to these calls in one list, each as a list of its own."""
    flat = []
    for call in calls:
        flat.extend(call)
    told = answers(flat)
    apart = []
    spot = 0
    while spot < len(told):
        apart.append(told[spot + 1:spot + 1 + told[spot]])
        assert len(apart[-1]) == told[spot]
        spot += 1 + told[spot]
    assert len(apart) == len(calls)
    return apart


def one_line(xs, ys):
    """A make whose level 0 is the line through these nails."""
    return make(xs, [0, 1], ys + [0] * len(xs))


def of_line(xs, ys):
    """What bending, turns and top answer of the line through these nails."""
    return ask(one_line(xs, ys), bending(0, 0), turns(0, 0), top(0, 0))[1:]


def nails_bent(xs, sixths, slope=0):
    """The ys of nails at xs, the least of them 0, so that the batten's bend at nail i is 6 sixths[i]."""
    ys = [0]
    for i in range(1, len(xs)):
        gap = xs[i] - xs[i - 1]
        ys.append(ys[-1] + slope * gap)
        if i + 1 < len(xs):
            wider = xs[i + 1] - xs[i]
            slope += gap * sixths[i - 1] + 2 * (gap + wider) * sixths[i] + wider * sixths[i + 1]
    return [y - min(ys) for y in ys]


def quotients(answer):
    """The quotients behind an answer's 0; fails where one isn't in lowest terms."""
    assert answer[0] == 0 and len(answer) % 2 == 1, answer
    found = []
    for i in range(1, len(answer), 2):
        quotient = Fraction(answer[i], answer[i + 1])
        assert [quotient.numerator, quotient.denominator] == answer[i:i + 2], answer
        found.append(quotient)
    return found


def told(quotient):
    quotient = Fraction(quotient)
    return [0, quotient.numerator, quotient.denominator]


def noise(seed):
    """Whole numbers that look like chance and are the same each time."""
    state = seed * 2654435761 + 12345
    while True:
        state = (state * 6364136223846793005 + 1442695040888963407) % 2 ** 64
        yield state >> 33


def rising(chance, many, low, high):
    """As many different numbers from low to high, rising."""
    found = set()
    while len(found) < many:
        found.add(low + next(chance) % (high - low + 1))
    return sorted(found)


def some_table(seed, stations, levels, size):
    chance = noise(seed)
    places = rising(chance, stations, 0, size)
    heights = rising(chance, levels, -size, size)
    breadths = [next(chance) % (size + 1) for i in range(stations * levels)]
    return places, heights, breadths


def nails(table, way, k):
    """The line's nails, taken from the table cell by cell."""
    places, heights, breadths = table
    if way == 0:
        return places, [breadths[k * len(places) + s] for s in range(len(places))]
    return heights, [breadths[level * len(places) + k] for level in range(len(heights))]


def some_lines(table):
    """The first, a middle and the last line of each way, as way, k."""
    for way in (0, 1):
        last = len(table[1 - way]) - 1
        for k in sorted({0, last // 2, last}):
            yield way, k


def lines_by_definition(seed, sizes, size):
    """Some lines of a table of each of these sizes: table, way, k, xs, ys, cubics."""
    for number, (stations, levels) in enumerate(sizes):
        table = some_table(seed + number, stations, levels, size)
        for way, k in some_lines(table):
            xs, ys = nails(table, way, k)
            yield table, way, k, xs, ys, batten_by_definition(xs, ys)


def solve(rows):
    """The one solution of these equations (the last of each row is its right side)."""
    rows = [[Fraction(x) for x in row] for row in rows]
    size = len(rows)
    for column in range(size):
        pivot = next(r for r in range(column, size) if rows[r][column] != 0)
        rows[column], rows[pivot] = rows[pivot], rows[column]
        lead = rows[column][column]
        rows[column] = [x / lead for x in rows[column]]
        for r in range(size):
            factor = rows[r][column]
            if r != column and factor != 0:
                rows[r] = [x - factor * y for x, y in zip(rows[r], rows[column])]
    return [row[-1] for row in rows]


def batten_by_definition(xs, ys):
    """Each cubic's A, B, C, D, from the document's own conditions as equations, all at once."""
    pieces = len(xs) - 1
    width = 4 * pieces + 1
    rows = []

    def equation(entries, right):
        row = [0] * width
        for column, value in entries:
            row[column] += value
        row[-1] = right
        rows.append(row)

    for i in range(pieces):
        h = xs[i + 1] - xs[i]
        j = 4 * i
        equation([(j, 1)], ys[i])
        equation([(j, 1), (j + 1, h), (j + 2, h ** 2), (j + 3, h ** 3)], ys[i + 1])
        if i + 1 < pieces:
            equation([(j + 1, 1), (j + 2, 2 * h), (j + 3, 3 * h ** 2), (j + 5, -1)], 0)
            equation([(j + 2, 2), (j + 3, 6 * h), (j + 6, -2)], 0)
        else:
            equation([(j + 2, 2), (j + 3, 6 * h)], 0)
    equation([(2, 2)], 0)
    solved = solve(rows)
    return [solved[4 * i:4 * i + 4] for i in range(pieces)]


def told_at(xs, cubics, place, what):
    """Value, slope or bend there, from each cubic that reaches there: a list of one or two."""
    found = []
    for i, (a, b, c, d) in enumerate(cubics):
        if xs[i] <= place <= xs[i + 1]:
            t = place - xs[i]
            found.append((a + b * t + c * t ** 2 + d * t ** 3, b + 2 * c * t + 3 * d * t ** 2, 2 * c + 6 * d * t)[what])
    return found
