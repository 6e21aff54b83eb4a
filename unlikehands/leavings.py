"""People who leave amid: whether all steps can be done and all rules kept, whoever leaves."""

from unlikehands.absences import are_people, check_many
from unlikehands.errors import NoList, NoPerson, NotReady, Stuck, TooMany
from unlikehands.firsts import FirstHands
from unlikehands.known import lot_of
from unlikehands.papers import are_rows


def _lists_of(names, most):
    """All tuples of at most so many of the names, in their order, the shorter ones first."""
    lists = [()]
    for name in names:
        lists = lists + [(*row, name) for row in lists if len(row) < most]
    return [row for many in range(len(names) + 1) for row in lists if len(row) == many]


class Leavings:
    """What becomes of a book if at most so many people leave.

    The lists of people who may have left are numbered, and a lot of them is an integer that has the
    bit 1 at the number of each list in it. The list of nobody has the number 0.
    """

    def __init__(self, book, many):
        self.staff = book.staff
        self.many = many
        self.hands_of = [book.staff.able(step) for step in book.steps]
        self.firsts = FirstHands(book)
        self.lists = _lists_of(book.staff.names, many)
        self.all_lists = lot_of(list(range(len(self.lists))))
        self.having = {name: self._lot_with([name]) for name in book.staff.names}
        self.further = [self._lot_with(row) for row in self.lists]
        self.met = {}

    def _lot_with(self, names):
        """The lot of the lists that have all of these people."""
        return lot_of([at for at, row in enumerate(self.lists) if all([name in row for name in names])])

    def fine(self, given):
        """The lot of the lists with which the next step can be given well, if just these people have left then.

        The first steps were given to some people, a tuple of names; one step at least is left.
        """
        found = 0
        for name in self.hands_of[len(given)]:
            found = found | (self.safe((*given, name)) & ~self.having[name])
            if found == self.all_lists:
                break
        return found

    def safe(self, given):
        """The lot of the lists with which, whoever leaves besides, all steps can be done and all rules kept."""
        if given not in self.met:
            self.met[given] = self._found_safe(given)
        return self.met[given]

    def _found_safe(self, given):
        if self.firsts.broken_leaf(given) is not None:
            return 0
        if len(given) == len(self.hands_of):
            return self.all_lists
        wrong = self.all_lists & ~self.fine(given)
        return lot_of([at for at, further in enumerate(self.further) if further & wrong == 0])

    def lists_behind(self, at):
        """The numbers of the lists that have all people of the list with this number."""
        return [number for number in range(len(self.lists)) if self.further[at] >> number & 1]

    def next_name(self, given, at):
        """The first person who can be given the next step well, if just the list with this number has left."""
        for name in self._hands_left(given, at):
            if self.safe((*given, name)) >> at & 1:
                return name
        return None

    def _hands_left(self, given, at):
        """The people who may do the next step, if just the list with this number has left."""
        return [name for name in self.hands_of[len(given)] if name not in self.lists[at]]

    def plan(self):
        """A plan; the list of nobody must be a safe one ahead of all steps."""
        due = {(): list(range(len(self.lists)))}
        rows = []
        for _ in self.hands_of:
            later = {}
            for given, numbers in due.items():
                for at in numbers:
                    name = self.next_name(given, at)
                    rows.append((given, list(self.lists[at]), name))
                    then = later.setdefault((*given, name), {})
                    then.update({number: True for number in self.lists_behind(at)})
            due = {given: sorted(numbers) for given, numbers in later.items()}
        return rows

    def attack(self, given, at):
        """An attack from where a list has left with which it isn't safe that these people did the first steps."""
        if len(given) == len(self.hands_of):
            return self.firsts.broken_leaf(given)
        fine = self.fine(given)
        wrong = [number for number in self.lists_behind(at) if not fine >> number & 1]
        # Where few are left to choose from, the attack is small.
        to = sorted([(len(self._hands_left(given, number)), number) for number in wrong])[0][1]
        leaving = [name for name in self.lists[to] if name not in self.lists[at]]
        rows = [(name, self.attack((*given, name), to)) for name in self._hands_left(given, to)]
        return ("gone", leaving, rows)


def keeps_on(book, many):
    """("yes", plan) if a book keeps on through so many leavings, or ("no", attack)."""
    check_many(many)
    leavings = Leavings(book, many)
    if leavings.safe(()) & 1:
        return ("yes", leavings.plan())
    return ("no", leavings.attack((), 0))


def _is_entry(leavings, value):
    """Whether a value tells, for the first steps done and a list gone, somebody who may get the next step."""
    if not isinstance(value, tuple) or len(value) != 3:
        return False
    given, gone, name = value
    if not isinstance(given, tuple) or len(given) >= len(leavings.hands_of):
        return False
    if not all([each in able for each, able in zip(given, leavings.hands_of)]):
        return False
    if not are_people(leavings.staff, gone) or len(gone) > leavings.many:
        return False
    return name in leavings.hands_of[len(given)] and name not in gone


def _entries_of(leavings, value):
    """The dict of the names in a list of entries, by who did the first steps and the number of the list gone.

    None if one is no entry or tells the same again.
    """
    entries = {}
    for row in value:
        if not _is_entry(leavings, row):
            return None
        given, gone, name = row
        key = (given, leavings.lists.index(tuple(gone)))
        if key in entries:
            return None
        entries[key] = name
    return entries


def _is_plan(leavings, value):
    """Whether a value is a plan."""
    if not isinstance(value, list):
        return False
    entries = _entries_of(leavings, value)
    if entries is None or not all([((), at) in entries for at in range(len(leavings.lists))]):
        return False
    for (given, at), name in entries.items():
        then = (*given, name)
        if len(then) < len(leavings.hands_of):
            if not all([(then, number) in entries for number in leavings.lists_behind(at)]):
                return False
        elif leavings.firsts.broken_leaf(then) is not None:
            return False
    return True


def _is_attack(leavings, given, left, value):
    """Whether a value is an attack from where these people did the first steps and these have left."""
    if len(given) == len(leavings.hands_of):
        return leavings.firsts.shows_broken(given, value)
    if not isinstance(value, tuple) or len(value) != 3 or value[0] != "gone":
        return False
    _, names, rows = value
    if not are_people(leavings.staff, names) or any([name in left for name in names]):
        return False
    left_then = [*left, *names]
    if len(left_then) > leavings.many:
        return False
    due = [name for name in leavings.hands_of[len(given)] if name not in left_then]
    if not isinstance(rows, list) or not are_rows(due, rows):
        return False
    return all([_is_attack(leavings, (*given, name), left_then, below) for name, below in rows])


def shows_keeps_on(book, many, value):
    """Whether a value shows that a book keeps on through so many leavings, or that it does not."""
    check_many(many)
    if not isinstance(value, tuple) or len(value) != 2:
        return False
    word, paper = value
    if word == "yes":
        return _is_plan(Leavings(book, many), paper)
    return word == "no" and _is_attack(Leavings(book, many), (), [], paper)


class Keeper:
    """A run of the steps in their order, in which at most so many people leave."""

    def __init__(self, book, many):
        check_many(many)
        leavings = Leavings(book, many)
        if not leavings.safe(()) & 1:
            raise Stuck(leavings.attack((), 0))
        self.book = book
        self._leavings = leavings
        self._given = ()
        self._left = ()

    @property
    def done(self):
        """The list of (step, name) for the steps that are done, in order."""
        return list(zip(self.book.steps, self._given))

    @property
    def gone(self):
        """The list of the people who have left, in the order of the staff."""
        return list(self._left)

    @property
    def is_ended(self):
        """Whether all steps are done."""
        return len(self._given) == len(self.book.steps)

    def __len__(self):
        return len(self._given)

    def leave(self, names):
        """The people of a list leave, for ever."""
        if not isinstance(names, list):
            raise NoList()
        for at, name in enumerate(names):
            if name not in self.book.staff or name in self._left or name in names[:at]:
                raise NoPerson(name)
        if len(self._left) + len(names) > self._leavings.many:
            raise TooMany()
        left = (*self._left, *names)
        self._left = tuple([name for name in self.book.staff.names if name in left])

    def give(self):
        """Gives the next step to somebody so that it goes on whoever leaves; returns (step, name)."""
        if self.is_ended:
            raise NotReady()
        step = self.book.steps[len(self._given)]
        name = self._leavings.next_name(self._given, self._leavings.lists.index(self._left))
        self._given = (*self._given, name)
        return (step, name)

    def copy(self):
        """An independent keeper at the same place."""
        other = Keeper(self.book, self._leavings.many)
        other._given = self._given
        other._left = self._left
        return other
