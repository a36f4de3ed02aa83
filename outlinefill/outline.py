"""An outline: rings of points, one after another."""

MOST_POINTS = 4096
CURVE_STEPS = 16


def curve_coordinate(a, c, b, k):
    """One coordinate of the point that the k-th step of a curve leads to."""
    left = CURVE_STEPS - k
    # The weights add up to 256; half of that makes rounding down a rounding to the nearest.
    return (left * left * a + 2 * k * left * c + k * k * b + 128) // 256


def curve_points(a, c, b):
    """The points that a curve from a, by way of c, to b leads to; a itself is not among them."""
    return [
        (curve_coordinate(a[0], c[0], b[0], k), curve_coordinate(a[1], c[1], b[1], k))
        for k in range(1, CURVE_STEPS + 1)
    ]


class Outline:
    """Rings, each a list of points (x, y); the line that closes a ring is not written out."""

    def __init__(self):
        self.rings = []
        self.point_count = 0

    def has_room(self, added):
        return self.point_count + added <= MOST_POINTS

    def can_lead_on(self, added):
        return len(self.rings) > 0 and self.has_room(added)

    def last_point(self):
        return self.rings[-1][-1]

    def begin_ring(self, point):
        self.rings.append([point])
        self.point_count += 1

    def lead_on(self, points):
        self.rings[-1].extend(points)
        self.point_count += len(points)

    def points(self):
        """The points of all rings."""
        points = []
        for ring in self.rings:
            points.extend(ring)
        return points

    def lines(self):
        """All steps as pairs (from, to) of points, with the line that closes each ring."""
        lines = []
        for ring in self.rings:
            lines.extend(list(zip(ring, ring[1:] + ring[:1])))
        return lines
