"""What several tests share: rows and orders, how to make them, and other ways of telling what is so of them."""

import contextlib
import io
import itertools
from fractions import Fraction
from unittest import mock

FARTHEST = 30000
LARGEST = 4294967295

THREADS = [0, 1, 2, 7, 254, 255]

TURNS = [
    lambda x, y: (-y, x),
    lambda x, y: (-x, -y),
    lambda x, y: (y, -x),
]


def row_of(holes):
    return [number for hole in holes for number in hole]


def holes_of(row):
    return list(zip(row[0::2], row[1::2]))


def from_other_end(row):
    return row_of(reversed(holes_of(row)))


def changed(row, change):
    return row_of(change(x, y) for x, y in holes_of(row))


def lies_on(point, start, end):
    """Whether start + part * (end - start) is the point for a part from 0 to 1."""
    if start == end:
        return point == start
    axis = 0 if start[0] != end[0] else 1
    part = Fraction(point[axis] - start[axis], end[axis] - start[axis])
    there = tuple(start[k] + part * (end[k] - start[k]) for k in (0, 1))
    return 0 <= part <= 1 and there == tuple(point)


def crossing_of(a, b, c, d):
    """The one point that both lines share, by Cramer's rule; None where there isn't just one."""
    first = (b[1] - a[1], a[0] - b[0])
    second = (d[1] - c[1], c[0] - d[0])
    whole = first[0] * second[1] - second[0] * first[1]
    if whole == 0:
        return None
    level = first[0] * a[0] + first[1] * a[1]
    other = second[0] * c[0] + second[1] * c[1]
    x = Fraction(level * second[1] - other * first[1], whole)
    y = Fraction(first[0] * other - second[0] * level, whole)
    return (x, y)


def stitches_share_a_point(a, b, c, d):
    """Told another way than the program's: one of five points that could be common lies on both."""
    points = [a, b, c, d]
    crossing = crossing_of(a, b, c, d)
    if crossing is not None:
        points.append(crossing)
    return any(lies_on(point, a, b) and lies_on(point, c, d) for point in points)


def rows_share_a_point(one, other):
    ways = []
    for row in (one, other):
        holes = holes_of(row)
        ways.append(list(zip(holes, holes[1:])) or [(holes[0], holes[0])])
    return any(stitches_share_a_point(*way, *another) for way in ways[0] for another in ways[1])


def drawn_numbers():
    """Numbers from 0 to 32767 without end, the same ones at each run."""
    state = 12345
    while True:
        state = (state * 1103515245 + 12345) % 2147483648
        yield state >> 16


def drawn_rows(how_many):
    """Rows of 1 to 7 holes on a small field, the same ones at each run."""
    numbers = drawn_numbers()
    return [[next(numbers) % 13 - 6 for place in range(2 * (1 + k % 7))] for k in range(how_many)]


def rows_of(shapes, threads=THREADS):
    """The rows as over takes them, of shapes that are lists of rows without heads."""
    rows = []
    for number, shape in enumerate(shapes):
        for place, row in enumerate(shape):
            rows.append([-1 if place else threads[number % len(threads)]] + row)
    return rows


def drawings():
    """140 drawings of 1 to 12 shapes of 1 to 3 rows, the same ones at each run."""
    drawn = [row[:6] for row in drawn_rows(2000)]
    made = []
    for number in range(140):
        drawing = []
        for shape in range(1 + number % 12):
            aside = shape * (number % 5)
            rows = [drawn.pop() for place in range(1 + (number + shape) % 3)]
            drawing.append([changed(row, lambda x, y: (x + aside, y - 2 * aside)) for row in rows])
        made.append(drawing)
    return made


def numbers_of(befores):
    """Each shape's number, from a list for each shape of those that must come before it."""
    return [sum(2 ** i for i in before) for before in befores]


def chain(count):
    """The numbers of shapes that must each come right behind the one drawn before it."""
    return numbers_of([[j - 1] if j else [] for j in range(count)])


def full(count):
    """The numbers of shapes that must each come behind all lower ones."""
    return [2 ** j - 1 for j in range(count)]


def choices_of_numbers(count):
    """Every choice of what must come before what, for so many shapes."""
    return [list(numbers) for numbers in itertools.product(*[range(2 ** j) for j in range(count)])]


def drawn_tasks(how_many, least, most):
    """Threads and numbers for from least to most shapes, of few threads and many, of few bits and many."""
    drawn = drawn_numbers()
    tasks = []
    for k in range(how_many):
        count = least + k % (most - least + 1)
        kinds, share = 2 + next(drawn) % 3, next(drawn) % 7
        threads = [next(drawn) % kinds for j in range(count)]
        tasks.append((threads, numbers_of([[i for i in range(j) if next(drawn) % 10 < share] for j in range(count)])))
    return tasks


def orders_of(numbers):
    """Every order in order, told another way than the program's: of all rows, those where no bit is broken."""
    pairs = [(i, j) for j, number in enumerate(numbers) for i in range(j) if number // 2 ** i % 2]
    orders = []
    for row in itertools.permutations(range(len(numbers))):
        if all(row.index(i) < row.index(j) for i, j in pairs):
            orders.append(list(row))
    return orders


def changes_along(threads, row):
    """How many changes a row of shapes has: its runs of one thread, less one."""
    return len(list(itertools.groupby(threads[j] for j in row))) - 1


class Untouchable(list):
    """A list that tells each try to change it."""

    def refuse(self, *args, **kwargs):
        raise AssertionError("what is handed in was changed")

    append = extend = insert = pop = remove = clear = sort = reverse = refuse
    __setitem__ = __delitem__ = __iadd__ = __imul__ = refuse


def told_aside(call):
    """What a call prints, and which of the ways to print, read or import it goes."""
    names = ["print", "open", "input", "__import__"]
    out, err = io.StringIO(), io.StringIO()
    with contextlib.ExitStack() as stack:
        stack.enter_context(contextlib.redirect_stdout(out))
        stack.enter_context(contextlib.redirect_stderr(err))
        used = [stack.enter_context(mock.patch("builtins." + name)) for name in names]
        call()
    return out.getvalue() + err.getvalue(), [name for name, way in zip(names, used) if way.called]


class RefusedTasks:
    """Tests of the threads and numbers that order and judge refuse, told to the test case's check_refused."""

    def test_no_threads(self):
        self.check_refused([], [])
        self.check_refused([], [0])
        self.check_refused([], [0] * 12)

    def test_no_numbers(self):
        self.check_refused([1], [])
        self.check_refused([1] * 12, [])

    def test_more_than_twelve(self):
        for count in (13, 14, 29, 30):
            self.check_refused([1] * count, [0] * count)
            self.check_refused(list(range(count)), full(count))

    def test_fewer_and_more_numbers_than_threads(self):
        for count, other in itertools.permutations(range(31), 2):
            self.check_refused([1] * count, [0] * other)
        self.check_refused([1, 2, 1], [0, 1])
        self.check_refused([1, 2], [0, 1, 2])

    def test_a_number_too_great(self):
        for count in (1, 2, 3, 7, 12):
            for j in sorted({0, count // 2, count - 1}):
                for number in (2 ** j, 2 ** j + 1, 2 ** (j + 1), 2 ** 31, LARGEST):
                    for numbers in ([0] * count, full(count)):
                        numbers[j] = number
                        self.check_refused([1] * count, numbers)

    def test_the_first_number_is_one(self):
        self.check_refused([1], [1])
        self.check_refused([1, 2, 1, 2], [1, 1, 0, 4])
        self.check_refused([3] * 12, [1] + [0] * 11)

    def test_a_number_that_names_its_own_shape_or_a_later_one(self):
        self.check_refused([1, 2, 3], [0, 2, 0])
        self.check_refused([1, 2, 3], [0, 4, 0])
        self.check_refused([1, 2, 3], [2, 0, 0])
        self.check_refused([1, 2, 3], [0, 3, 0])
