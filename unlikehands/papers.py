"""Papers of a depth: something that holds, and for each part that it rests on a paper without this part.

A paper of a depth d for some parts gone is a tuple (head, rows). The head rests on none of the parts
gone; rows is the empty list if d is 0, else the list of (part, paper) for all parts it rests on, each
paper of depth d - 1 with this part gone, too. So any d parts may go, and some head in the paper stays.
"""


def paper_of(source, gone, depth, made):
    """("yes", paper) with a paper of a depth for some parts gone, or ("no", gone, rest) if there is none.

    source.head(gone) tells ("yes", head, parts) or ("no", rest). What was made is kept in a dict by
    what is gone and the depth, since the same parts go in many sequences.
    """
    key = (tuple(sorted(gone)), depth)
    if key not in made:
        made[key] = _made(source, gone, depth, made)
    return made[key]


def _made(source, gone, depth, made):
    told = source.head(gone)
    if told[0] == "no":
        return ("no", gone, told[1])
    _, head, parts = told
    rows = []
    due = parts if depth > 0 else []
    for part in due:
        below = paper_of(source, [*gone, part], depth - 1, made)
        if below[0] == "no":
            return below
        rows.append((part, below[1]))
    return ("yes", (head, rows))


def deepest_paper(source):
    """The least parts that must go so that no head stays: (gone, rest, paper).

    The paper, of a depth one less than the parts are many, shows that no fewer are enough; None for no parts.
    """
    made = {}
    paper = None
    depth = 0
    told = paper_of(source, [], depth, made)
    while told[0] == "yes":
        paper = told[1]
        depth = depth + 1
        told = paper_of(source, [], depth, made)
    return (told[1], told[2], paper)


def shows_paper(source, depth, value):
    """Whether a value is a paper of a depth for nothing gone.

    source.parts_of(gone, head) tells the parts on which a head rests, or None if it is none.
    """
    left = [(value, [], depth)]
    while left:
        paper, gone, deep = left.pop()
        if not isinstance(paper, tuple) or len(paper) != 2:
            return False
        head, rows = paper
        parts = source.parts_of(gone, head)
        if parts is None or not isinstance(rows, list):
            return False
        due = parts if deep > 0 else []
        if not are_rows(due, rows):
            return False
        left.extend([(below, [*gone, part], deep - 1) for part, below in rows])
    return True


def are_rows(due, rows):
    """Whether rows have a tuple with something for just the parts that are due, in their order."""
    if len(rows) != len(due):
        return False
    for part, row in zip(due, rows):
        if not isinstance(row, tuple) or len(row) != 2 or row[0] != part:
            return False
        # True and 1 are equal, but only one of them is a number of a rule.
        if isinstance(row[0], bool):
            return False
    return True
