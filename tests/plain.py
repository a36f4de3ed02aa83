"""The calls reckoned plainly from the document's words, sample point by sample point."""


def curve_to(a, c, b):
    """The sixteen points of a curve."""
    reached = []
    for k in range(1, 17):
        weighed = [(16 - k) ** 2 * a[d] + 2 * k * (16 - k) * c[d] + k ** 2 * b[d] for d in (0, 1)]
        reached.append(tuple((number + 128) // 256 for number in weighed))
    return reached


def rings_of(calls):
    """The rings that move, line and curve draw, none of them refused."""
    rings = []
    for number, *given in calls:
        if number == 3:
            rings.append([tuple(given)])
        elif number == 4:
            rings[-1].append(tuple(given))
        else:
            rings[-1].extend(curve_to(rings[-1][-1], given[:2], given[2:]))
    return rings


def goes_round(rings, qx, qy):
    """How often the rings go round a point that is given in half units."""
    rounds = 0
    for ring in rings:
        for k, start in enumerate(ring):
            goal = ring[(k + 1) % len(ring)]
            a, b = (start, goal) if start[1] <= goal[1] else (goal, start)
            if 2 * a[1] < qy < 2 * b[1]:
                if (b[0] - a[0]) * (qy - 2 * a[1]) > (b[1] - a[1]) * (qx - 2 * a[0]):
                    rounds += 1 if a == start else -1
    return rounds


def place_rounds(rings, x, y):
    """For each of a place's sample points, how often the rings go round it."""
    samples = [(i, j) for j in range(16) for i in range(16)]
    return [goes_round(rings, 128 * x + 8 * i + 5, 128 * y + 8 * j + 5) for i, j in samples]


def how_many_within(rounds, rule):
    return sum(number != 0 if rule == 0 else number % 2 == 1 for number in rounds)


def place_count(rings, rule, x, y):
    """How many of the place's sample points lie within."""
    return how_many_within(place_rounds(rings, x, y), rule)


def place_counts(width, height, rule, *calls):
    """For each place, row by row, how many of its sample points lie within the outline of these calls."""
    rings = rings_of(calls)
    return [[place_count(rings, rule, x, y) for x in range(width)] for y in range(height)]


def blend(old, new, n):
    """The colour, part by part, of a place of which n sample points lie within."""
    parts = zip(old.to_bytes(4, "big"), new.to_bytes(4, "big"))
    return int.from_bytes([(was * (256 - n) + is_new * n + 128) // 256 for was, is_new in parts], "big")


class PlainPicture:
    """All nine calls, told as the document tells them; each answers a list."""

    def __init__(self):
        self.width = self.height = 0
        self.colours = {}
        self.rings = []

    def answer(self, number, *given):
        ways = [self.open, self.colour, self.move, self.line, self.curve, self.fill, self.within, self.row, self.box]
        return ways[number - 1](*given)

    def points(self):
        return [point for ring in self.rings for point in ring]

    def open(self, width, height):
        if width not in range(1, 513) or height not in range(1, 513):
            return [-2]
        self.width, self.height, self.rings = width, height, []
        self.colours = {(x, y): 0 for x in range(width) for y in range(height)}
        return [0]

    def colour(self, x, y, w, h, colour):
        if x not in range(self.width + 1) or y not in range(self.height + 1):
            return [-2]
        if w not in range(self.width - x + 1) or h not in range(self.height - y + 1):
            return [-2]
        self.colours.update({(i, j): colour for i in range(x, x + w) for j in range(y, y + h)})
        return [0]

    def lengthen(self, coordinates, added, needs_ring):
        """The refusal of a call that adds so many points, or how many there are then."""
        if max(map(abs, coordinates)) > 1000000:
            return [-2]
        if len(self.points()) + added > 4096 or needs_ring and not self.rings:
            return [-1]
        return [len(self.points()) + added]

    def move(self, x, y):
        answer = self.lengthen([x, y], 1, False)
        if answer[0] > 0:
            self.rings.append([(x, y)])
        return answer

    def line(self, x, y):
        answer = self.lengthen([x, y], 1, True)
        if answer[0] > 0:
            self.rings[-1].append((x, y))
        return answer

    def curve(self, cx, cy, x, y):
        answer = self.lengthen([cx, cy, x, y], 16, True)
        if answer[0] > 0:
            self.rings[-1].extend(curve_to(self.rings[-1][-1], (cx, cy), (x, y)))
        return answer

    def fill(self, rule, colour):
        if rule not in (0, 1):
            return [-2]
        shares = {place: place_count(self.rings, rule, *place) for place in self.colours}
        for place, n in shares.items():
            self.colours[place] = blend(self.colours[place], colour, n)
        self.rings = []
        return [sum(n > 0 for n in shares.values())]

    def within(self, rule, x, y):
        if rule not in (0, 1) or (x, y) not in self.colours:
            return [-2]
        return [place_count(self.rings, rule, x, y)]

    def row(self, y):
        if y not in range(self.height):
            return [-2]
        return [0] + [self.colours[x, y] for x in range(self.width)]

    def box(self):
        if not self.points():
            return [-1]
        xs, ys = zip(*self.points())
        return [0, min(xs), min(ys), max(xs), max(ys)]
