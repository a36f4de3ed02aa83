"""Colours that take on more or less of another colour."""

# How many sample points a place has: with all of them within, the new colour is all that is left.
ALL_SAMPLES = 256

# Where the four parts of a colour lie.
PART_SHIFTS = (0, 8, 16, 24)


def blended(old, new, n):
    """The colour of a place that had the colour old, with n of its sample points within."""
    colour = 0
    for shift in PART_SHIFTS:
        old_part = (old >> shift) & 255
        new_part = (new >> shift) & 255
        part = (old_part * (ALL_SAMPLES - n) + new_part * n + 128) // ALL_SAMPLES
        colour += part << shift
    return colour


def blended_run(colours, new, n):
    """These colours, each blended alike."""
    if n == ALL_SAMPLES:
        # The same by the reckoning, part by part, but large areas come out at once.
        return [new] * len(colours)
    return [blended(old, new, n) for old in colours]


def blended_row(row, runs, new):
    """A row of colours, blended where runs (start, end, n), from the left, tell so."""
    colours = []
    for start, end, n in runs:
        colours.extend(row[len(colours):start])
        colours.extend(blended_run(row[start:end], new, n))
    colours.extend(row[len(colours):])
    return colours
