"""Tables hold from a week or month on, until the next one from which one holds."""


def holding(tables, when):
    """The table with the greatest key that is no greater than `when`, None for none."""
    begun = [key for key in tables if key <= when]
    if not begun:
        return None
    return tables[max(begun)]
