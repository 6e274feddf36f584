"""The book: all persons, and the pay tables and due tables that hold for them all."""

from wagebook.errors import NoHours, NoTable
from wagebook.person import Person
from wagebook.tables import good_bands, good_dues
from wagebook.weeks import month_of, week_of

HOURS_OF_DAY = 24


class Book:
    """What is refused raises an error ahead of any change."""

    def __init__(self):
        self.people = {}
        self.rates = {}
        self.dues = {}

    def person_of(self, who):
        """The person of that name; everybody is one, without hours at first."""
        return self.people.setdefault(who, Person())

    def tell_hours(self, who, day, many):
        """Sets the hours of the day, and gives back the pay for its week."""
        if many < 0 or many > HOURS_OF_DAY:
            raise NoHours("hours are from nought to 24")
        self.person_of(who).set_hours(day, many)
        return self.pay_of(who, week_of(day))

    def tell_rate(self, week, bands):
        """The pay table holds from the week on."""
        if not good_bands(bands):
            raise NoTable("the bands of a pay table must rise to None")
        self.rates[week] = bands

    def tell_dues(self, month, table):
        """The due table holds from the month on."""
        if not good_dues(table):
            raise NoTable("a due table is good bands, a top and a per")
        self.dues[month] = table

    def hold_payday_of(self, who, week):
        """Holds a payday of the person for the week."""
        return self.person_of(who).hold_payday(week, self.rates, self.dues)

    def pay_of(self, who, week):
        """The pay for the week."""
        return self.person_of(who).week_pay(week, self.rates)

    def nets_of(self, who, week):
        """A dict from months to the person's nets up to the week."""
        return self.person_of(who).nets_by_month(week, self.rates, self.dues)

    def net_of(self, who, week):
        """The net for the month of the week, up to the week."""
        return self.nets_of(who, week).get(month_of(week), 0)

    def right_of(self, who, week):
        """The sum of the nets for all months, up to the week."""
        return sum(self.nets_of(who, week).values())

    def paid_to(self, who):
        """All that was paid to the person."""
        return self.person_of(who).paid

    def owing_to(self, who, week):
        """The right up to the week less all that was paid."""
        return self.right_of(who, week) - self.paid_to(who)

    def names(self):
        """Those who have hours or had a payday, in the order of Python's texts."""
        return [who for who in sorted(self.people) if self.people[who].has_part()]
