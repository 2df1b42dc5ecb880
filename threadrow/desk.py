"""The desk's calls over rows of holes, told by turns as x and y."""

MOST_IN_ROW = 60
MOST_TOGETHER = 300
MOST_SHAPES = 12
FARTHEST = 30000


def touch(one, other):
    """Answer [1] if the two rows touch, [0] if they don't, [-1] if either of them is refused."""
    if is_refused(one) or is_refused(other):
        return [-1]
    if is_touching(stitches_of(one), stitches_of(other)):
        return [1]
    return [0]


def over(rows):
    """Answer how many pairs of shapes touch, then each shape's number of those before it; [-1] is a refusal."""
    if is_drawing_refused(rows):
        return [-1]
    shapes = shapes_of(rows)
    befores = [ones_before(j, shapes) for j in range(len(shapes))]
    pairs = sum([len(before) for before in befores])
    return [pairs] + [number_of(before) for before in befores]


def is_refused(row):
    """Tell whether a row has no hole or too many, or a hole out of bounds."""
    count = len(row) // 2
    return count < 1 or count > MOST_IN_ROW or not is_in_bounds(row)


def is_drawing_refused(rows):
    """Tell whether shapes or their holes are too few or too many, or a hole is out of bounds."""
    shape_count = len([row for row in rows if begins_shape(row)])
    if shape_count < 1 or shape_count > MOST_SHAPES:
        return True
    tails = [tail_of(row) for row in rows]
    counts = [len(tail) // 2 for tail in tails]
    if min(counts) < 1 or sum(counts) > MOST_TOGETHER:
        return True
    return not all([is_in_bounds(tail) for tail in tails])


def begins_shape(row):
    """Tell whether a headed row is its shape's first one: a thread is never below 0."""
    return row[0] >= 0


def tail_of(row):
    """Give what stands behind a row's head, the holes alone."""
    return row[1:]


def is_in_bounds(row):
    """Tell whether each x and each y of a row is one that a place may have."""
    return all([abs(number) <= FARTHEST for number in row])


def holes_of(row):
    """List a row's holes, each as its x and its y."""
    return [(row[k], row[k + 1]) for k in range(0, len(row), 2)]


def stitches_of(row):
    """List the stitches between a row's holes, each as its two ends."""
    holes = holes_of(row)
    # A lone hole has no next one, and yet it can be touched: it counts as a way from itself to itself.
    if len(holes) == 1:
        return [(holes[0], holes[0])]
    return [(holes[k], holes[k + 1]) for k in range(len(holes) - 1)]


def shapes_of(rows):
    """List the shapes as they were drawn, each as the stitches of all its rows."""
    shapes = []
    for row in rows:
        if begins_shape(row):
            shapes.append([])
        shapes[-1].extend(stitches_of(tail_of(row)))
    return shapes


def ones_before(j, shapes):
    """List the shapes that must come before the j-th."""
    return [i for i in range(j) if is_touching(shapes[i], shapes[j])]


def number_of(before):
    """Give the number that has the 2^i's place for each shape i that must come before."""
    number = 0
    for i in before:
        number += 1 << i
    return number


def is_touching(one, other):
    """Tell whether one of some stitches touches one of some others."""
    for stitch in one:
        for another in other:
            if stitches_touch(stitch, another):
                return True
    return False


def stitches_touch(one, other):
    """Tell whether two stitches have a point in common, their ends counting."""
    # Stitches in one line, and those that are a point, part each other wherever they lie: only their spans tell.
    if not spans_meet(one, other, 0) or not spans_meet(one, other, 1):
        return False
    return is_parted(one, other) and is_parted(other, one)


def spans_meet(one, other, axis):
    """Tell whether the stitches' spans along x (axis 0) or y (axis 1) have a number in common."""
    low = max(min(one[0][axis], one[1][axis]), min(other[0][axis], other[1][axis]))
    high = min(max(one[0][axis], one[1][axis]), max(other[0][axis], other[1][axis]))
    return low <= high


def is_parted(stitch, line):
    """Tell whether the stitch's ends don't lie both on the same side of the line's way."""
    return side_of(stitch[0], line) * side_of(stitch[1], line) <= 0


def side_of(place, line):
    """Give a number above 0 for a place left of the line's way, below 0 right of it, 0 upon it."""
    start = line[0]
    end = line[1]
    return (end[0] - start[0]) * (place[1] - start[1]) - (end[1] - start[1]) * (place[0] - start[0])
