"""A picture with its outline, and the calls on it."""

from outlinefill.blend import blended_row
from outlinefill.coverage import runs_of_place_row, samples_within, steps_by_place_row
from outlinefill.outline import CURVE_STEPS, Outline, curve_points

OUT_OF_RANGE = -2
REFUSED = -1

LARGEST_SIDE = 512
FARTHEST = 1000000
LARGEST_COLOUR = 4294967295

OPEN_CALL = 1
COLOUR_CALL = 2
MOVE_CALL = 3
LINE_CALL = 4
CURVE_CALL = 5
FILL_CALL = 6
WITHIN_CALL = 7
ROW_CALL = 8

# By a call's number: how many numbers stand behind it. No call has the number 0.
ARGUMENT_COUNTS = (0, 2, 5, 2, 2, 4, 2, 3, 1, 0)


def is_side(number):
    return 1 <= number <= LARGEST_SIDE


def is_colour(number):
    return 0 <= number <= LARGEST_COLOUR


def is_rule(number):
    return 0 <= number <= 1


def are_coordinates(numbers):
    return all([-FARTHEST <= number <= FARTHEST for number in numbers])


class Picture:
    """Rows of colours, and the outline that is being drawn. A refused call changes nothing."""

    def __init__(self):
        # Before the first open there is no picture, so no place to paint.
        self.width = 0
        self.height = 0
        self.rows = []
        self.outline = Outline()

    def begin(self, width, height):
        """The call open."""
        if not (is_side(width) and is_side(height)):
            return OUT_OF_RANGE
        self.width = width
        self.height = height
        self.rows = [[0] * width for y in range(height)]
        self.outline = Outline()
        return 0

    def holds_box(self, x, y, w, h):
        if not (0 <= x <= self.width and 0 <= y <= self.height):
            return False
        return 0 <= w <= self.width - x and 0 <= h <= self.height - y

    def paint(self, x, y, w, h, colour):
        """The call colour."""
        if not (self.holds_box(x, y, w, h) and is_colour(colour)):
            return OUT_OF_RANGE
        for at in range(y, y + h):
            row = self.rows[at]
            self.rows[at] = row[:x] + [colour] * w + row[x + w:]
        return 0

    def move(self, x, y):
        if not are_coordinates([x, y]):
            return OUT_OF_RANGE
        if not self.outline.has_room(1):
            return REFUSED
        self.outline.begin_ring((x, y))
        return self.outline.point_count

    def line(self, x, y):
        if not are_coordinates([x, y]):
            return OUT_OF_RANGE
        if not self.outline.can_lead_on(1):
            return REFUSED
        self.outline.lead_on([(x, y)])
        return self.outline.point_count

    def curve(self, cx, cy, x, y):
        if not are_coordinates([cx, cy, x, y]):
            return OUT_OF_RANGE
        if not self.outline.can_lead_on(CURVE_STEPS):
            return REFUSED
        self.outline.lead_on(curve_points(self.outline.last_point(), (cx, cy), (x, y)))
        return self.outline.point_count

    def fill(self, rule, colour):
        if not (is_rule(rule) and is_colour(colour)):
            return OUT_OF_RANGE
        place_count = 0
        for y, steps in enumerate(steps_by_place_row(self.outline.lines(), self.height)):
            # Most rows of a large picture may lie beside a small outline.
            if len(steps) > 0:
                runs = runs_of_place_row(steps, rule, y, self.width)
                self.rows[y] = blended_row(self.rows[y], runs, colour)
                place_count += sum([end - start for start, end, n in runs])
        self.outline = Outline()
        return place_count

    def within(self, rule, x, y):
        if not (is_rule(rule) and 0 <= x < self.width and 0 <= y < self.height):
            return OUT_OF_RANGE
        return samples_within(self.outline.lines(), rule, x, y)

    def row(self, y):
        """All that the call row answers."""
        if not 0 <= y < self.height:
            return [OUT_OF_RANGE]
        return [0] + self.rows[y]

    def box(self):
        """All that the call box answers."""
        points = self.outline.points()
        if len(points) == 0:
            return [REFUSED]
        xs = [x for x, y in points]
        ys = [y for x, y in points]
        return [0, min(xs), min(ys), max(xs), max(ys)]


def answer_call(picture, call, numbers):
    """What one call answers, number by number."""
    if call == OPEN_CALL:
        return [picture.begin(numbers[0], numbers[1])]
    if call == COLOUR_CALL:
        return [picture.paint(numbers[0], numbers[1], numbers[2], numbers[3], numbers[4])]
    if call == MOVE_CALL:
        return [picture.move(numbers[0], numbers[1])]
    if call == LINE_CALL:
        return [picture.line(numbers[0], numbers[1])]
    if call == CURVE_CALL:
        return [picture.curve(numbers[0], numbers[1], numbers[2], numbers[3])]
    if call == FILL_CALL:
        return [picture.fill(numbers[0], numbers[1])]
    if call == WITHIN_CALL:
        return [picture.within(numbers[0], numbers[1], numbers[2])]
    if call == ROW_CALL:
        return picture.row(numbers[0])
    # The one call that is left is 9, box.
    return picture.box()


def answers(calls):
    """For each call in the list, in order: how many numbers it answers, then these."""
    picture = Picture()
    answered = []
    at = 0
    while at < len(calls):
        call = calls[at]
        end = at + 1 + ARGUMENT_COUNTS[call]
        answer = answer_call(picture, call, calls[at + 1:end])
        answered.append(len(answer))
        answered.extend(answer)
        at = end
    return answered
