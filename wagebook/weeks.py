"""Days are numbered, ahead of nought too; weeks and months are runs of them."""

DAYS_OF_WEEK = 7
WEEKS_OF_MONTH = 4


def week_of(day):
    """The week in which the day lies."""
    # `//` goes down below nought too, so day -1 lies in week -1.
    return day // DAYS_OF_WEEK


def month_of(week):
    """The month in which the week lies."""
    return week // WEEKS_OF_MONTH
