"""Bands cut an amount into parts; pay and dues are worked out from the parts."""


def parts_of(amount, bands):
    """The parts into which the bands cut the amount, one for each band."""
    parts = []
    left = amount
    floor = 0
    for pair in bands:
        upto = pair[0]
        if upto is None:
            parts.append(left)
        else:
            part = min(left, upto - floor)
            parts.append(part)
            left = left - part
            floor = upto
    return parts


def worth(amount, bands):
    """The sum of each part of the amount times the `each` of its band."""
    return sum([part * pair[1] for part, pair in zip(parts_of(amount, bands), bands)])


def relief_of(pay, top, per):
    """What is let off the due; it falls as the pay rises."""
    return max(0, top - pay // per)


def due_of(pay, table):
    """The due of a pay by a due table `(bands, top, per)`."""
    # The worth is cut to whole hundreds ahead of the relief, so what is left never meets it.
    hundreds = worth(pay, table[0]) // 100
    return max(0, hundreds - relief_of(pay, table[1], table[2]))
