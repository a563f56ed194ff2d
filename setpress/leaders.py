"""Where leaders draw the box that they repeat."""

IN_STEP = 0
CENTRED = 1

MOST_COPIES = 16


def first_copies(first, step, times):
    return [first + k * step for k in range(min(times, MOST_COPIES))]


def in_step(size, place, space):
    # Rounded up, so that the first whole multiple lies at or behind the place, also below 0.
    first = -(-place // size) * size
    return first_copies(first, size, (place + space - first) // size)


def centred(size, place, space):
    return first_copies(place + space % size // 2, size, space // size)


def spread(size, place, space):
    times = space // size
    gap = space % size // (times + 1)
    return first_copies(place + gap, size + gap, times)


def copy_places(way, size, place, space):
    """Where a box of this size is drawn in the space that begins at a place, both measured from the box around."""
    if size < 1 or space < size:
        return []
    if way == IN_STEP:
        return in_step(size, place, space)
    if way == CENTRED:
        return centred(size, place, space)
    return spread(size, place, space)
