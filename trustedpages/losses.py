"""Losses: what can be on the disk when the machine falls, and what harm it does."""

from trustedpages.arranged import can_lose, harm_to, is_within, left_by
from trustedpages.errors import BadLoss
from trustedpages.kinds import is_whole
from trustedpages.moments import Moment


def losses(history):
    """All losses that can be, ascending."""
    ledger = history.ledger
    for n in range(len(ledger.log) + 1):
        for p in range(len(ledger.page_log) + 1):
            for m in range(len(ledger.mark_values)):
                if can_lose(ledger, n, p, m):
                    yield (n, p, m)


def can_be(history, loss):
    """True for a loss that can be; the value may be of any kind."""
    if not isinstance(loss, tuple) or len(loss) != 3:
        return False
    n, p, m = loss
    if not all([is_whole(number) and number >= 0 for number in (n, p, m)]):
        return False
    return is_within(history.ledger, n, p, m) and can_lose(history.ledger, n, p, m)


def _left_by(history, loss):
    """What a loss leaves: the rows, the mark, and the list of the hands of the moment."""
    if not can_be(history, loss):
        raise BadLoss(loss)
    n, p, m = loss
    return left_by(history.ledger, n, p, m)


def recovered(history, loss):
    """The rows, the mark and the moment behind a fall with this loss."""
    rows, mark, hands = _left_by(history, loss)
    return (rows, mark, Moment(*hands))


def harm(history, loss):
    """A row that is told wrongly or missed behind a fall with this loss, or None."""
    rows, mark, hands = _left_by(history, loss)
    return harm_to(history.ledger.scene, rows, mark, hands)


def least_forced(history, loss):
    """The least number of notes that can be out beside this page and this mark."""
    if not can_be(history, loss):
        raise BadLoss(loss)
    _, p, m = loss
    n = 0
    while not can_lose(history.ledger, n, p, m):
        n = n + 1
    return n


def with_all(history):
    """The loss in which everything is out."""
    ledger = history.ledger
    return (len(ledger.log), len(ledger.page_log), len(ledger.mark_values) - 1)


def without_sets(history, loss):
    """The loss with the same notes and page and as many mark steps of this one as end with no set, or None."""
    if not can_be(history, loss):
        raise BadLoss(loss)
    ledger = history.ledger
    n, p, most = loss
    for m in range(most, -1, -1):
        if (m == 0 or not ledger.mark_values[m]) and can_lose(ledger, n, p, m):
            return (n, p, m)
    return None


def harmless(history):
    """The ascending list of the losses that can be and do no harm."""
    return [loss for loss in losses(history) if harm(history, loss) is None]
