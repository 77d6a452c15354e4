"""Benches: a book and a cast, played step by step."""

from trustedpages.errors import BadCast, NoStep
from trustedpages.kinds import is_between
from trustedpages.moments import Moment
from trustedpages.pages import Page
from trustedpages.rows import Row
from trustedpages.scenes import Scene, begin, holder, may_step, step_from, word_of


class Bench:
    """A state, and the steps that lead on from it."""

    def __init__(self, book, cast):
        self._book = book.twin()
        self._cast = cast
        self._scene = Scene(book, cast)
        self._lay(begin(self._scene))

    def _lay(self, state):
        """Takes another state."""
        self._state = state
        self._holder = holder(self._scene, state)

    def _check_hand(self, hand):
        """Raises BadCast for a value that is no hand."""
        if not is_between(hand, 0, len(self._cast) - 1):
            raise BadCast(hand)

    def state(self):
        """The state as a tuple."""
        return self._state

    def can(self, hand):
        """True if the next step of a hand can come."""
        self._check_hand(hand)
        return may_step(self._scene, self._state, hand)

    def steps(self):
        """The hands whose next step can come, ascending."""
        for hand in range(len(self._cast)):
            if may_step(self._scene, self._state, hand):
                yield hand

    def next_word(self, hand):
        """The next word of a hand, or None."""
        self._check_hand(hand)
        return word_of(self._scene, self._state, hand)

    def go(self, *hands):
        """Makes a step for each of these hands, all or none; the list of the words."""
        for hand in hands:
            self._check_hand(hand)
        said = []
        state = self._state
        for at, hand in enumerate(hands):
            if not may_step(self._scene, state, hand):
                raise NoStep(at)
            said.append(word_of(self._scene, state, hand))
            state = step_from(self._scene, state, hand)
        self._lay(state)
        return said

    def __call__(self, hand):
        said = self.go(hand)
        return said[0]

    @property
    def mark(self):
        """The mark."""
        return self._state[2]

    @property
    def lock(self):
        """The hand that holds the lock, or None."""
        return self._holder

    def page(self):
        """The rows that are there, with hands as writers."""
        rows = [Row(self._cast.putter(row), spot[1]) for row, spot in enumerate(self._state[1]) if spot[0] == 1]
        return Page(rows)

    def moment(self, hand):
        """The moment of a reader; None ahead of it and for other hands."""
        self._check_hand(hand)
        reader = self._state[4][hand]
        if reader is None or reader[0] is None:
            return None
        writers = reader[0]
        return Moment(*writers)

    def told(self, hand):
        """What a reader has told; None ahead of it and for other hands."""
        self._check_hand(hand)
        reader = self._state[4][hand]
        return None if reader is None else reader[3]

    def twin(self):
        """A new bench in the same state."""
        bench = Bench(self._book, self._cast)
        bench._lay(self._state)
        return bench
