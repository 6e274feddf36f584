"""One person: the hours told of it, what was paid to it, and what its last payday saw."""

from wagebook.bands import due_of, worth
from wagebook.errors import TooEarly
from wagebook.tables import holding
from wagebook.weeks import month_of, week_of


def pay_for(hours, week, rates):
    """The pay for so many hours in a week, by the pay table that holds for it."""
    bands = holding(rates, week)
    if bands is None:
        return 0
    return worth(hours, bands)


def net_for(pay, month, dues):
    """What the due table that holds for the month leaves of its pay."""
    table = holding(dues, month)
    if table is None:
        return pay
    return pay - due_of(pay, table)


def lines_between(old_nets, new_nets):
    """A tuple of month and change for each month whose net is another, in the order of the months."""
    lines = []
    # Days once told stay, and paydays go on to later weeks alone: no month of the old nets is missing in the new.
    for month in sorted(new_nets):
        change = new_nets[month] - old_nets.get(month, 0)
        if change != 0:
            lines.append((month, change))
    return lines


class Person:
    """Everything is worked out anew from the hours by day, so what is told late counts at once."""

    def __init__(self):
        self.days = {}
        self.paid = 0
        self.last_week = None
        self.last_nets = {}

    def set_hours(self, day, many):
        """The hours of the day are these, whatever was told ahead."""
        self.days[day] = many

    def hours_by_week(self):
        """A dict from each week of which something was told to its hours."""
        hours = {}
        for day, many in self.days.items():
            week = week_of(day)
            hours[week] = hours.get(week, 0) + many
        return hours

    def week_pay(self, week, rates):
        """The pay for one week."""
        return pay_for(self.hours_by_week().get(week, 0), week, rates)

    def pays_by_month(self, last, rates):
        """A dict from months to the pay for their weeks up to the last week."""
        pays = {}
        # Only weeks that were told of are walked: those between may be too many to count.
        for week, hours in self.hours_by_week().items():
            if week <= last:
                month = month_of(week)
                pays[month] = pays.get(month, 0) + pay_for(hours, week, rates)
        return pays

    def nets_by_month(self, last, rates, dues):
        """A dict from months to their nets up to the last week; a month that is not in it has nought."""
        nets = {}
        for month, pay in self.pays_by_month(last, rates).items():
            nets[month] = net_for(pay, month, dues)
        return nets

    def hold_payday(self, week, rates, dues):
        """Pays what is left of the right up to the week: what is paid, what is carried, and the lines."""
        if self.last_week is not None and week < self.last_week:
            raise TooEarly("the last payday was for a later week")
        nets = self.nets_by_month(week, rates, dues)
        left = sum(nets.values()) - self.paid
        lines = lines_between(self.last_nets, nets)
        self.paid = self.paid + max(0, left)
        self.last_week = week
        self.last_nets = nets
        return (max(0, left), min(0, left), lines)

    def has_part(self):
        """Whether the person has hours of more than nought on some day, or had a payday."""
        return self.last_week is not None or any([many > 0 for many in self.days.values()])
