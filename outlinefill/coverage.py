"""How many sample points of a picture's places lie within an outline.

The sample points stand in columns and rows over the whole picture, 16 of each to a place. Column s and row t,
both from 0, have the coordinates 4 s + 2 + 1/2 and 4 t + 2 + 1/2: in half units, 8 s + 5 and 8 t + 5.
"""

SAMPLES = 16

# By a rule's number: the bits that tell, of how often the outline goes round, whether that is within.
# -1 has every bit, so that any number but 0 tells; 1 has the lowest alone, which odd numbers have.
TELLING_BITS = (-1, 1)


def row_below(y):
    """The first sample row whose y is greater than this whole number."""
    return (2 * y + 3) // 8


class Step:
    """A step of an outline, as the sample rows see it.

    In each row from first on and ahead of end, it adds turn to how often the outline goes round the columns
    that are less than a limit. Between the two ends, the limit moves along a straight line.
    """

    def __init__(self, a, b, turn):
        """a is the end with the smaller y, b the other one; turn is 1 if the step leads from a to b, else -1."""
        dx = b[0] - a[0]
        dy = b[1] - a[1]
        self.first = row_below(a[1])
        self.end = row_below(b[1])
        self.turn = turn
        # dx (q.y - a.y) > dy (q.x - a.x) in half units, solved for the column:
        # 8 dy s < dx (8 t + 5 - 2 a.y) + dy (2 a.x - 5)
        self.scale = 8 * dy
        self.slope = 8 * dx
        self.base = dx * (5 - 2 * a[1]) + dy * (2 * a[0] - 5)

    def limits(self, first, end):
        """For each row from first on and ahead of end, the limit: the first column that is not gone round."""
        base = self.base
        slope = self.slope
        scale = self.scale
        # The two signs turn the rounding down into a rounding up.
        return [-((-base - slope * t) // scale) for t in range(first, end)]


def steps_across(lines, first, end):
    """The steps, out of lines (from, to), that cross a sample row from first on and ahead of end."""
    steps = []
    for start, goal in lines:
        step = Step(start, goal, 1) if start[1] < goal[1] else Step(goal, start, -1)
        if max(step.first, first) < min(step.end, end):
            steps.append(step)
    return steps


def steps_by_place_row(lines, height):
    """For each row of places, the steps that cross one of its sample rows."""
    place_rows = [[] for y in range(height)]
    for step in steps_across(lines, 0, SAMPLES * height):
        first = max(step.first // SAMPLES, 0)
        end = min((step.end - 1) // SAMPLES + 1, height)
        for y in range(first, end):
            place_rows[y].append(step)
    return place_rows


def turns_of_place_row(steps, y, left, right):
    """For each sample row of a row of places: a dict of limits, with the turns that end there added up.

    Only the columns from left on and ahead of right are asked for, so a limit beyond right is as good as right.
    """
    top = SAMPLES * y
    sample_rows = [{} for j in range(SAMPLES)]
    for step in steps:
        first = max(step.first, top)
        limits = step.limits(first, min(step.end, top + SAMPLES))
        for j, limit in enumerate(limits, start=first - top):
            if limit > left:
                turns = sample_rows[j]
                column = min(limit, right)
                turns[column] = turns.get(column, 0) + step.turn
    return sample_rows


def spans_within(turns, rule, left):
    """The spans (start, end) of one sample row's columns that lie within, end not among them."""
    bits = TELLING_BITS[rule]
    limits = sorted(turns, reverse=True)
    spans = []
    rounds = 0
    # Every limit counts for all columns left of it, so the way is from the right to the left.
    for start, end in zip(limits[1:] + [left], limits):
        rounds += turns[end]
        if rounds & bits != 0:
            spans.append((start, end))
    return spans


def spans_of_place_row(steps, rule, y, left, right):
    """The spans of columns that lie within, of all the sample rows of a row of places."""
    spans = []
    for turns in turns_of_place_row(steps, y, left, right):
        spans.extend(spans_within(turns, rule, left))
    return spans


def add_columns(changes, column, sign):
    """Let all columns from this one on count for their places, or, with sign -1, no longer.

    changes holds, by place, by how much its count differs from that of the place left of it.
    """
    x = column // SAMPLES
    missing = column % SAMPLES
    changes[x] = changes.get(x, 0) + sign * (SAMPLES - missing)
    changes[x + 1] = changes.get(x + 1, 0) + sign * missing


def runs_of_place_row(steps, rule, y, width):
    """The runs (start, end, n) of places, from the left, of which each has n sample points within, n above 0."""
    changes = {}
    for start, end in spans_of_place_row(steps, rule, y, 0, SAMPLES * width):
        add_columns(changes, start, 1)
        add_columns(changes, end, -1)
    places = sorted(changes)
    runs = []
    n = 0
    # Behind the last place that has a change, all spans have ended and n is 0.
    for start, end in zip(places, places[1:]):
        n += changes[start]
        if n > 0:
            runs.append((start, end, n))
    return runs


def samples_within(lines, rule, x, y):
    """How many sample points of the place (x, y) lie within."""
    steps = steps_across(lines, SAMPLES * y, SAMPLES * y + SAMPLES)
    spans = spans_of_place_row(steps, rule, y, SAMPLES * x, SAMPLES * x + SAMPLES)
    return sum([end - start for start, end in spans])
