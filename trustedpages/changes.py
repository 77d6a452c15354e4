"""Changes of books, and the least ones that take faults away."""

from trustedpages.books import assign
from trustedpages.compared import Faults, is_kind
from trustedpages.errors import BadBook, BadKind, NoChange, TooMany, UnknownPart

MOST_CHANGES = 4


def changed(book, changes):
    """A new book with these changes, made in order."""
    new = book.twin()
    for at, change in enumerate(changes):
        if not isinstance(change, tuple) or len(change) != 2:
            raise NoChange(at)
        part, value = change
        try:
            assign(new, part, value)
        except (UnknownPart, BadBook) as why:
            raise NoChange(at) from why
    return new


def _takes_away(book, changes, kinds):
    """True if a book with these changes, which may be of any kind, has none of these kinds of faults."""
    try:
        faults = Faults(changed(book, changes))
    except NoChange:
        return False
    return not any([kind in faults for kind in kinds])


def _sets_of(many):
    """The ascending tuples of numbers below this one, shorter ones first, then ascending."""
    level = [()]
    found = []
    while level:
        found.extend(level)
        level = [(*chosen, k) for chosen in level for k in range(chosen[-1] + 1 if len(chosen) > 0 else 0, many)]
    return found


def _has_part(chosen, smaller):
    """True if a set of numbers has one of these as a part."""
    return any([all([k in chosen for k in part]) for part in smaller])


def least_changes(book, menu, kinds):
    """All least sets of changes of a menu with which a book has none of these kinds of faults."""
    for kind in kinds:
        if not is_kind(kind):
            raise BadKind(kind)
    if len(menu) > MOST_CHANGES:
        raise TooMany(MOST_CHANGES)
    least = []
    for chosen in _sets_of(len(menu)):
        if not _has_part(chosen, least) and _takes_away(book, [menu[k] for k in chosen], kinds):
            least.append(chosen)
    return least
