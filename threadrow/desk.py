"""The desk's calls over rows of holes, told by turns as x and y, and over orders of the shapes made of them."""

MOST_IN_ROW = 60
MOST_TOGETHER = 300
MOST_SHAPES = 12
FARTHEST = 30000


def touch(one, other):
    """Answer [1] if the two rows touch, [0] if they don't, [-1] if either of them is refused."""
    if is_refused(one) or is_refused(other):
        return [-1]
    if is_touching(stitches_of(one), stitches_of(other)):
        return [1]
    return [0]


def over(rows):
    """Answer how many pairs of shapes touch, then each shape's number of those before it; [-1] is a refusal."""
    if is_drawing_refused(rows):
        return [-1]
    shapes = shapes_of(rows)
    befores = [ones_before(j, shapes) for j in range(len(shapes))]
    pairs = sum([len(before) for before in befores])
    return [pairs] + [number_of(before) for before in befores]


def order(threads, numbers):
    """Answer how many changes the told order has, then that order; [-1] is a refusal."""
    if is_task_refused(threads, numbers):
        return [-1]
    told = told_order(threads, numbers)
    return [changes_of(told, threads)] + told


def judge(threads, numbers, tried):
    """Answer how many changes the tried order has; [-3] if it's none, [-1] is a refusal of what it is tried on."""
    if is_task_refused(threads, numbers):
        return [-1]
    if not is_order(tried, numbers):
        return [-3]
    return [changes_of(tried, threads)]


def is_refused(row):
    """Tell whether a row has no hole or too many, or a hole out of bounds."""
    count = len(row) // 2
    return count < 1 or count > MOST_IN_ROW or not is_in_bounds(row)


def is_drawing_refused(rows):
    """Tell whether shapes or their holes are too few or too many, or a hole is out of bounds."""
    if is_shape_count_refused(len([row for row in rows if begins_shape(row)])):
        return True
    tails = [tail_of(row) for row in rows]
    counts = [len(tail) // 2 for tail in tails]
    if min(counts) < 1 or sum(counts) > MOST_TOGETHER:
        return True
    return not all([is_in_bounds(tail) for tail in tails])


def is_task_refused(threads, numbers):
    """Tell whether shapes are too few or too many, or don't have one number each, of lower-numbered shapes alone."""
    if is_shape_count_refused(len(threads)) or len(numbers) != len(threads):
        return True
    return any([number >= 1 << j for j, number in enumerate(numbers)])


def is_shape_count_refused(count):
    """Tell whether there is no shape or more of them than the calls take."""
    return count < 1 or count > MOST_SHAPES


def begins_shape(row):
    """Tell whether a headed row is its shape's first one: a thread is never below 0."""
    return row[0] >= 0


def tail_of(row):
    """Give what stands behind a row's head, the holes alone."""
    return row[1:]


def is_in_bounds(row):
    """Tell whether each x and each y of a row is one that a place may have."""
    return all([abs(number) <= FARTHEST for number in row])


def holes_of(row):
    """List a row's holes, each as its x and its y."""
    return [(row[k], row[k + 1]) for k in range(0, len(row), 2)]


def stitches_of(row):
    """List the stitches between a row's holes, each as its two ends."""
    holes = holes_of(row)
    # A lone hole has no next one, and yet it can be touched: it counts as a way from itself to itself.
    if len(holes) == 1:
        return [(holes[0], holes[0])]
    return [(holes[k], holes[k + 1]) for k in range(len(holes) - 1)]


def shapes_of(rows):
    """List the shapes as they were drawn, each as the stitches of all its rows."""
    shapes = []
    for row in rows:
        if begins_shape(row):
            shapes.append([])
        shapes[-1].extend(stitches_of(tail_of(row)))
    return shapes


def ones_before(j, shapes):
    """List the shapes that must come before the j-th."""
    return [i for i in range(j) if is_touching(shapes[i], shapes[j])]


def number_of(before):
    """Give the number that has the 2^i's place for each shape i that must come before."""
    number = 0
    for i in before:
        number += 1 << i
    return number


def is_touching(one, other):
    """Tell whether one of some stitches touches one of some others."""
    for stitch in one:
        for another in other:
            if stitches_touch(stitch, another):
                return True
    return False


def stitches_touch(one, other):
    """Tell whether two stitches have a point in common, their ends counting."""
    # Stitches in one line, and those that are a point, part each other wherever they lie: only their spans tell.
    if not spans_meet(one, other, 0) or not spans_meet(one, other, 1):
        return False
    return is_parted(one, other) and is_parted(other, one)


def spans_meet(one, other, axis):
    """Tell whether the stitches' spans along x (axis 0) or y (axis 1) have a number in common."""
    low = max(min(one[0][axis], one[1][axis]), min(other[0][axis], other[1][axis]))
    high = min(max(one[0][axis], one[1][axis]), max(other[0][axis], other[1][axis]))
    return low <= high


def is_parted(stitch, line):
    """Tell whether the stitch's ends don't lie both on the same side of the line's way."""
    return side_of(stitch[0], line) * side_of(stitch[1], line) <= 0


def side_of(place, line):
    """Give a number above 0 for a place left of the line's way, below 0 right of it, 0 upon it."""
    start = line[0]
    end = line[1]
    return (end[0] - start[0]) * (place[1] - start[1]) - (end[1] - start[1]) * (place[0] - start[0])


def told_order(threads, numbers):
    """List the shapes' numbers in the first of the orders with the fewest changes."""
    to_come = fewest_to_come(threads, numbers)
    told = []
    taken = 0
    for place in range(len(threads)):
        free = free_ones(taken, numbers)
        counts = [changes_of(told[-1:] + [j], threads) + to_come[taken | 1 << j][threads[j]] for j in free]
        # Of several with the least count, index finds the first, and the free ones stand by their numbers.
        chosen = free[counts.index(min(counts))]
        told.append(chosen)
        taken = taken | 1 << chosen
    return told


def fewest_to_come(threads, numbers):
    """Give for each set of taken shapes, by the last one's thread, the fewest changes still to come.

    A set is told by a number, as what must come before a shape is.
    """
    full = (1 << len(threads)) - 1
    to_come = {full: by_thread(threads, 0)}
    # To take one more makes a set's number greater, so what is looked up stands there already.
    for taken in range(full - 1, -1, -1):
        # There is always a free one: nothing that is left can come before the lowest-numbered of them.
        free = free_ones(taken, numbers)
        counts = [to_come[taken | 1 << j][threads[j]] for j in free]
        fewest = by_thread(threads, min(counts) + 1)
        for j, count in zip(free, counts):
            fewest[threads[j]] = min(fewest[threads[j]], count)
        to_come[taken] = fewest
    return to_come


def by_thread(threads, count):
    """Give a dict that has the same count for each thread."""
    counts = {}
    for thread in threads:
        counts[thread] = count
    return counts


def free_ones(taken, numbers):
    """List the shapes that aren't taken and can come next, the lowest-numbered first."""
    return [j for j in range(len(numbers)) if (taken >> j) & 1 == 0 and is_ready(numbers[j], taken)]


def is_order(row, numbers):
    """Tell whether a row has each shape's number once, behind those of all that must come before it."""
    if sorted(row) != list(range(len(numbers))):
        return False
    taken = 0
    for j in row:
        if not is_ready(numbers[j], taken):
            return False
        taken = taken | 1 << j
    return True


def is_ready(number, taken):
    """Tell whether all that must come before a shape, as its number tells, are taken."""
    return (number & taken) == number


def changes_of(row, threads):
    """Count the neighbours in a row of shapes that have different threads."""
    return len([k for k in range(len(row) - 1) if threads[row[k]] != threads[row[k + 1]]])
