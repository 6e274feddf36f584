"""Deeds are done one by one in a new book, and answered."""

from wagebook.book import Book
from wagebook.errors import NoHours, NoTable, TooEarly


def asked(book, name, who, week):
    """The answer to a deed that asks of a person and a week."""
    if name == "pay":
        return book.pay_of(who, week)
    if name == "net":
        return book.net_of(who, week)
    if name == "right":
        return book.right_of(who, week)
    return book.owing_to(who, week)


def done(book, deed):
    """Does the deed and gives back its answer; raises the book's error where it is refused."""
    name = deed[0]
    if name == "hours":
        return book.tell_hours(deed[1], deed[2], deed[3])
    if name == "rate":
        book.tell_rate(deed[1], deed[2])
        return "told"
    if name == "dues":
        book.tell_dues(deed[1], deed[2])
        return "told"
    if name == "payday":
        return book.hold_payday_of(deed[1], deed[2])
    if name == "paid":
        return book.paid_to(deed[1])
    return asked(book, name, deed[1], deed[2])


def answer(book, deed):
    """Does the deed and gives back its answer, which is a text where it is refused."""
    try:
        return done(book, deed)
    except NoHours:
        return "no hours"
    except NoTable:
        return "no table"
    except TooEarly:
        return "too early"


def answers(deeds):
    """The answers of the deeds, a list."""
    book = Book()
    return [answer(book, deed) for deed in deeds]


def rights(deeds, week):
    """Behind the deeds: a list of tuples of a person, its right up to the week, and what was paid to it."""
    book = Book()
    for deed in deeds:
        answer(book, deed)
    return [(who, book.right_of(who, week), book.paid_to(who)) for who in book.names()]
