"""Runs: the steps of hands one after the other, and the readers that are wrong behind them."""

from trustedpages.benches import Bench
from trustedpages.errors import NoStep
from trustedpages.kinds import is_between
from trustedpages.scenes import Scene, begin, leads, may_step, step_from, wrong_word


def start(book, cast):
    """The state at the beginning."""
    return begin(Scene(book, cast))


def can_step(book, cast, state, hand):
    """True if the next step of a hand can come in a state."""
    return may_step(Scene(book, cast), state, hand)


def stepped(book, cast, state, hand):
    """The state behind the next step of a hand."""
    return step_from(Scene(book, cast), state, hand)


def wrongs(book, cast, state):
    """The ascending list of the readers that are wrong, each with the word."""
    scene = Scene(book, cast)
    told = [(hand, wrong_word(scene, state, hand)) for hand in range(len(cast))]
    return [pair for pair in told if pair[1] is not None]


def _first_gap(bench, cast, run):
    """Makes the steps of a run; the index of the first one that cannot come, or None."""
    for at, hand in enumerate(run):
        if not is_between(hand, 0, len(cast) - 1) or not bench.can(hand):
            return at
        bench(hand)
    return None


def played(book, cast, run):
    """A bench behind a run."""
    bench = Bench(book, cast)
    at = _first_gap(bench, cast, run)
    if at is not None:
        raise NoStep(at)
    return bench


def is_run(book, cast, run):
    """True for a run; the list or tuple may hold values of any kind."""
    return _first_gap(Bench(book, cast), cast, run) is None


def _longer(scene, level):
    """The runs with one step more, each with the state behind it."""
    return [((*run, hand), behind) for run, state in level for hand, behind in leads(scene, state)]


def all_runs(book, cast, most):
    """All runs of at most so many steps, shorter ones first, then ascending."""
    scene = Scene(book, cast)
    level = [((), begin(scene))]
    yield ()
    for _ in range(most):
        level = _longer(scene, level)
        for pair in level:
            yield pair[0]
