"""Cases that run by a book and never get stuck."""

from unlikehands.books import Book, verdict
from unlikehands.errors import BadBefore, NoList, NoPerson, NoStep, NotReady, NoUndo, Stuck
from unlikehands.staffs import Staff


def _leads(pairs, start, end):
    """Whether pairs lead from a step to another one, or it is the same one."""
    met = []
    left = [start]
    while left:
        step = left.pop()
        if step not in met:
            met.append(step)
            left.extend([later for ahead, later in pairs if ahead == step])
    return end in met


def _is_pair(steps, value):
    """Whether a value is a tuple of two steps."""
    return isinstance(value, tuple) and len(value) == 2 and value[0] in steps and value[1] in steps


def _check_befores(steps, befores):
    if not isinstance(befores, list):
        raise NoList()
    for number, pair in enumerate(befores):
        if not _is_pair(steps, pair) or _leads(befores[:number], pair[1], pair[0]):
            raise BadBefore(number)


def _barred(book, step, name):
    """The book in which one person may not do a step."""
    people = [
        (each, group, tuple([one for one in able if each != name or one != step]))
        for each, group, able in book.staff.people()
    ]
    return Book(Staff(book.steps, people), book.rules)


class Case:
    """Steps that are done one by one, so that in the end all rules are kept."""

    def __init__(self, book, befores):
        _check_befores(book.steps, befores)
        word, paper = verdict(book)
        if word == "no":
            raise Stuck(paper)
        self.book = book
        self._befores = list(befores)
        self._deeds = []

    @property
    def befores(self):
        """The list of the pairs."""
        return list(self._befores)

    @property
    def done(self):
        """The list of (step, name) in the order in which they were done."""
        return list(self._deeds)

    @property
    def is_ended(self):
        """Whether all steps are done."""
        return len(self._deeds) == len(self.book.steps)

    def __len__(self):
        return len(self._deeds)

    def __contains__(self, step):
        return step in [each for each, _ in self._deeds]

    def ready(self):
        """The list of the steps that are not done while all that come ahead of them are."""
        waiting = [later for ahead, later in self._befores if ahead not in self]
        return [step for step in self.book.steps if step not in self and step not in waiting]

    def _check_step(self, step):
        if step not in self.book.steps:
            raise NoStep(step)

    def _check_ready(self, step):
        if step not in self.ready():
            raise NotReady()

    def _kept_to(self, deeds):
        """The book whose staff has each step of some deeds taken out of the lists of everybody else."""
        staff = self.book.staff
        for step, name in deeds:
            staff = staff.only(step, name)
        return Book(staff, self.book.rules)

    def _with(self, step, name):
        """What verdict tells if a person does a step, too."""
        return verdict(self._kept_to(self._deeds + [(step, name)]))

    def who(self, step):
        """The list of the people who may do a step now."""
        self._check_step(step)
        self._check_ready(step)
        return [name for name in self.book.staff.able(step) if self._with(step, name)[0] == "yes"]

    def do(self, step, name):
        """Lets a person do a step."""
        self._check_step(step)
        if name not in self.book.staff:
            raise NoPerson(name)
        self._check_ready(step)
        word, paper = self._with(step, name)
        if word == "no":
            raise Stuck(paper)
        self._deeds.append((step, name))

    def undo(self):
        """Takes the last step back and returns (step, name)."""
        if not self._deeds:
            raise NoUndo()
        return self._deeds.pop()

    def rest(self):
        """A sharing that keeps all rules and gives the done steps to those who did them."""
        return verdict(self._kept_to(self._deeds))[1]

    def forced(self):
        """The list of (step, name) for the steps not done that one person alone does in all such sharings."""
        book = self._kept_to(self._deeds)
        met = [self.rest()]
        found = []
        for at, step in enumerate(self.book.steps):
            name = met[0][at]
            # Where one of the sharings met has somebody else, nobody is forced.
            if step not in self and all([sharing[at] == name for sharing in met]):
                word, paper = verdict(_barred(book, step, name))
                if word == "yes":
                    met.append(paper)
                else:
                    found.append((step, name))
        return found

    def copy(self):
        """An independent case with the same book, pairs and steps done."""
        other = Case(self.book, self._befores)
        other._deeds = list(self._deeds)
        return other
