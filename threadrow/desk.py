"""The desk's calls over rows of holes, told by turns as x and y."""

MOST_HOLES = 60
FARTHEST = 30000


def touch(one, other):
    """Answer [1] if the two rows touch, [0] if they don't, [-1] if either of them is refused."""
    if is_refused(one) or is_refused(other):
        return [-1]
    if rows_touch(holes_of(one), holes_of(other)):
        return [1]
    return [0]


def is_refused(row):
    """Tell whether a row has no hole or too many, or a hole out of bounds."""
    count = len(row) // 2
    return count < 1 or count > MOST_HOLES or not is_in_bounds(row)


def is_in_bounds(row):
    """Tell whether each x and each y of a row is one that a place may have."""
    return all([abs(number) <= FARTHEST for number in row])


def holes_of(row):
    """List a row's holes, each as its x and its y."""
    return [(row[k], row[k + 1]) for k in range(0, len(row), 2)]


def stitches_of(holes):
    """List the stitches between holes, each as its two ends."""
    # A lone hole has no next one, and yet it can be touched: it counts as a way from itself to itself.
    if len(holes) == 1:
        return [(holes[0], holes[0])]
    return [(holes[k], holes[k + 1]) for k in range(len(holes) - 1)]


def rows_touch(one, other):
    """Tell whether a stitch between the holes of one touches a stitch between those of the other."""
    others = stitches_of(other)
    for stitch in stitches_of(one):
        for another in others:
            if stitches_touch(stitch, another):
                return True
    return False


def stitches_touch(one, other):
    """Tell whether two stitches have a point in common, their ends counting."""
    # Stitches in one line, and those that are a point, part each other wherever they lie: only their spans tell.
    if not spans_meet(one, other, 0) or not spans_meet(one, other, 1):
        return False
    return is_parted(one, other) and is_parted(other, one)


def spans_meet(one, other, axis):
    """Tell whether the stitches' spans along x (axis 0) or y (axis 1) have a number in common."""
    low = max(min(one[0][axis], one[1][axis]), min(other[0][axis], other[1][axis]))
    high = min(max(one[0][axis], one[1][axis]), max(other[0][axis], other[1][axis]))
    return low <= high


def is_parted(stitch, line):
    """Tell whether the stitch's ends don't lie both on the same side of the line's way."""
    return side_of(stitch[0], line) * side_of(stitch[1], line) <= 0


def side_of(place, line):
    """Give a number above 0 for a place left of the line's way, below 0 right of it, 0 upon it."""
    start = line[0]
    end = line[1]
    return (end[0] - start[0]) * (place[1] - start[1]) - (end[1] - start[1]) * (place[0] - start[0])
