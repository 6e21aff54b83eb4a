"""People away: how many a book stands, and who can't be spared."""

from unlikehands.books import Book, shows_sharing, shows_shut, verdict
from unlikehands.errors import BadNumber
from unlikehands.least import fewest_hands
from unlikehands.papers import deepest_paper, paper_of, shows_paper
from unlikehands.patterns import is_integer

MOST_ABSENCES = 8


def book_without(book, names):
    """The book whose staff does not have these people."""
    return Book(book.staff.without(names), book.rules)


class Stays:
    """The sharings of a book that stay if some people are away."""

    def __init__(self, book):
        self.book = book
        self.met = []

    def in_order(self, names):
        """The list of the people with these names in the order of the staff."""
        return [name for name in self.book.staff.names if name in names]

    def head(self, gone):
        """("yes", sharing, names) with a sharing that has none of the people gone, or ("no", tree)."""
        for sharing in self.met:
            if not any([name in gone for name in sharing]):
                return ("yes", sharing, self.in_order(sharing))
        # Fewer hands make fewer rows.
        told = fewest_hands(book_without(self.book, gone))
        if told[0] == "no":
            return told
        self.met.append(told[1])
        return ("yes", told[1], self.in_order(told[1]))

    def parts_of(self, gone, value):
        """The people in a sharing, none of whom is gone, or None if a value is no such sharing."""
        if not shows_sharing(book_without(self.book, gone), value):
            return None
        return self.in_order(value)


def check_many(many):
    """Raises an error if so many people are none that may be asked for."""
    if not is_integer(many) or not 0 <= many <= MOST_ABSENCES:
        raise BadNumber()


def stands(book, many):
    """("yes", paper) if a book stands so many absences, or ("no", names, tree) with people it can't spare."""
    check_many(many)
    source = Stays(book)
    told = paper_of(source, [], many, {})
    if told[0] == "yes":
        return told
    return ("no", source.in_order(told[1]), told[2])


def are_people(staff, value):
    """Whether a value is a list of unlike people of a staff in their order."""
    names = staff.names
    if not isinstance(value, list) or len(value) > len(names):
        return False
    return value == [name for name in names if name in value]


def shows_stands(book, many, value):
    """Whether a value shows that a book stands so many absences, or that it does not."""
    check_many(many)
    if not isinstance(value, tuple):
        return False
    if len(value) == 2:
        return value[0] == "yes" and shows_paper(Stays(book), many, value[1])
    if len(value) != 3 or value[0] != "no" or not are_people(book.staff, value[1]):
        return False
    return len(value[1]) <= many and shows_shut(book_without(book, value[1]), value[2])


def stoppers(book):
    """(names, tree, paper): fewest people without whom the book has no sharing, and what shows it."""
    source = Stays(book)
    gone, tree, paper = deepest_paper(source)
    return (source.in_order(gone), tree, paper)


def shows_stoppers(book, value):
    """Whether a value tells fewest stoppers and shows it."""
    if not isinstance(value, tuple) or len(value) != 3:
        return False
    names, tree, paper = value
    if not are_people(book.staff, names) or not shows_shut(book_without(book, names), tree):
        return False
    if not names:
        return paper is None
    return shows_paper(Stays(book), len(names) - 1, paper)


def critical(book):
    """The list of (name, tree) for the people without whom alone the book has no sharing."""
    found = []
    for name in book.staff.names:
        word, paper = verdict(book_without(book, [name]))
        if word == "no":
            found.append((name, paper))
    return found
