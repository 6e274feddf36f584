"""Tables hold from a week or month on, until the next one from which one holds."""

GREATEST_EACH_OF_DUES = 100


def holding(tables, when):
    """The table with the greatest key that is no greater than `when`, None for none."""
    begun = [key for key in tables if key <= when]
    if not begun:
        return None
    return tables[max(begun)]


def good_bands(bands):
    """Whether the numbers `upto` rise from one on to a last None, and no `each` is below nought."""
    if not bands or bands[-1][0] is not None:
        return False
    floor = 0
    for pair in bands[:-1]:
        upto = pair[0]
        if upto is None or upto <= floor:
            return False
        floor = upto
    return all([pair[1] >= 0 for pair in bands])


def good_dues(table):
    """Whether a due table `(bands, top, per)` has good bands and numbers that can be used."""
    bands = table[0]
    if not good_bands(bands):
        return False
    if any([pair[1] > GREATEST_EACH_OF_DUES for pair in bands]):
        return False
    return table[1] >= 0 and table[2] >= 1
