"""Savings: how many looks at pages cleanings save."""

from trustedpages.errors import BadDeed
from trustedpages.kinds import is_between, is_one_of

WORDS = ("write", "read")


def _is_page(marks, value):
    """True for the number of a page of the marks; the value may be of any kind."""
    return is_between(value, 0, len(marks) - 1)


def _check_deeds(deeds, marks):
    """Raises BadDeed with the first deed that is none."""
    for index, deed in enumerate(deeds):
        if not isinstance(deed, tuple) or len(deed) != 2:
            raise BadDeed(index)
        if not is_one_of(deed[0], WORDS) or not _is_page(marks, deed[1]):
            raise BadDeed(index)


def _is_cleaning(deeds, marks, value):
    """True for a cleaning; the value may be of any kind."""
    if not isinstance(value, tuple) or len(value) != 2:
        return False
    return is_between(value[0], 0, len(deeds)) and _is_page(marks, value[1])


def looks(deeds, marks, cleanings):
    """The number of looks with these cleanings."""
    _check_deeds(deeds, marks)
    if not all([_is_cleaning(deeds, marks, cleaning) for cleaning in cleanings]):
        raise BadDeed(None)
    now = marks.twin()
    number = 0
    for index, (word, page) in enumerate(deeds):
        for gap, cleaned in cleanings:
            if gap == index:
                now[cleaned] = True
        if word == "write":
            now[page] = False
        elif not now[page]:
            number += 1
    return number


def _bursts(deeds, marks):
    """The reads that cost looks, parted by the writes of their page: lists [gap, page, number], ascending.

    One cleaning saves all looks of one burst if it comes at its gap, and no cleaning saves those of two.
    """
    bursts = []
    latest = {}
    bare = {page: not marks[page] for page in range(len(marks))}
    for index, (word, page) in enumerate(deeds):
        if word == "write":
            bare[page] = True
            latest[page] = None
        elif bare[page]:
            if latest.get(page) is None:
                latest[page] = len(bursts)
                bursts.append([index, page, 0])
            bursts[latest[page]][2] += 1
    return bursts


def _descending(bursts):
    """The numbers of looks of the bursts, the greatest first."""
    return sorted([int(burst[2]) for burst in bursts], reverse=True)


def least_looks(deeds, marks, many):
    """The least number of looks with at most so many cleanings, and an ascending list of such cleanings."""
    _check_deeds(deeds, marks)
    bursts = _bursts(deeds, marks)
    numbers = _descending(bursts)
    spared = numbers[:many]
    cleanings = []
    for gap, page, number in bursts:
        if number in spared:
            spared.remove(number)
            cleanings.append((gap, page))
    return (sum(numbers[many:]), cleanings)


def saved(deeds, marks):
    """The least numbers of looks with 0, 1, 2 and more cleanings, as long as more of them save looks."""
    _check_deeds(deeds, marks)
    numbers = _descending(_bursts(deeds, marks))
    return [sum(numbers[many:]) for many in range(len(numbers) + 1)]
