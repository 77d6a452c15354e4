"""Point 5: moments."""

from tests.values import Case, no_numbers, strange_values
from trustedpages.errors import BadWriter
from trustedpages.moments import Moment
from trustedpages.rows import Row

ALL = list(range(31))
SOME = [(), (0,), (30,), (1, 2), (2, 3), (1, 2, 3), (0, 15, 30), tuple(ALL)]


class MakingTest(Case):
    def test_writers_are_ascending(self):
        for given, writers in [
            ((), []), ((0,), [0]), ((30,), [30]), ((5, 3), [3, 5]), ((30, 0, 7), [0, 7, 30]),
            ((4, 4), [4]), ((2, 1, 2, 1), [1, 2]), (tuple(reversed(ALL)), ALL), (tuple(ALL + ALL), ALL),
        ]:
            with self.subTest(given=given):
                self.same(Moment(*given).writers(), writers)
                self.same(len(Moment(*given)), len(writers))

    def test_writers_of_every_single_writer(self):
        for k in ALL:
            self.assertEqual(Moment(k).writers(), [k])
            self.same(Moment(k).number(), 2 ** k)

    def test_the_first_argument_that_is_no_writer(self):
        for value in [-1, 31, 32, -31, 2 ** 31, 10 ** 29, *no_numbers()]:
            for given in [(value,), (0, value), (value, 0), (1, 1, value, -7), (value, "x", 31)]:
                error = self.raised(BadWriter, Moment, *given)
                self.assertIs(error.value, value)

    def test_a_returned_list_is_new(self):
        moment = Moment(1, 2)
        moment.writers().append(3)
        moment.writers().clear()
        self.assertEqual(moment.writers(), [1, 2])
        self.assertEqual(moment.number(), 6)


class NumberTest(Case):
    def test_number(self):
        for given, number in [((), 0), ((0,), 1), ((1, 2, 4), 22), ((4, 4, 4), 16), (tuple(ALL), 2147483647)]:
            self.same(Moment(*given).number(), number)

    def test_of(self):
        for number, writers in [(0, []), (1, [0]), (22, [1, 2, 4]), (2 ** 30, [30]), (2147483647, ALL)]:
            self.assertIsInstance(Moment.of(number), Moment)
            self.assertEqual(Moment.of(number).writers(), writers)
            self.assertEqual(Moment.of(number=number).number(), number)

    def test_of_what_is_no_number_of_a_moment(self):
        for value in [-1, 2147483648, 2 ** 40, -(2 ** 31), *no_numbers()]:
            error = self.raised(BadWriter, Moment.of, value)
            self.assertIs(error.value, value)


class ContainsTest(Case):
    def test_writers(self):
        moment = Moment(0, 7, 30)
        for k in range(-40, 80):
            self.assertIs(k in moment, k in (0, 7, 30))

    def test_values_of_any_kind(self):
        for moment in [Moment(), Moment(0, 1), Moment(*ALL)]:
            for value in [-1, 31, 2 ** 40, *no_numbers()]:
                self.assertIs(value in moment, False)
                self.assertIs(value not in moment, True)


class SignsTest(Case):
    def test_two_moments(self):
        for one in SOME:
            for other in SOME:
                with self.subTest(one=one, other=other):
                    a, b = Moment(*one), Moment(*other)
                    self.check(a | b, set(one) | set(other))
                    self.check(a & b, set(one) & set(other))
                    self.check(a - b, set(one) - set(other))
                    self.assertEqual([a.writers(), b.writers()], [sorted(set(one)), sorted(set(other))])

    def test_a_moment_and_a_writer(self):
        for one in SOME:
            for k in (0, 1, 2, 3, 15, 29, 30):
                with self.subTest(one=one, k=k):
                    moment = Moment(*one)
                    self.check(moment | k, set(one) | {k})
                    self.check(k | moment, set(one) | {k})
                    self.check(moment & k, set(one) & {k})
                    self.check(k & moment, set(one) & {k})
                    self.check(moment - k, set(one) - {k})
                    self.check(k - moment, {k} - set(one))
                    self.assertEqual(moment.writers(), sorted(set(one)))

    def test_the_operands_stay_in_place(self):
        moment = Moment(1)
        before = moment
        moment |= 2
        self.assertEqual([before.writers(), moment.writers()], [[1], [1, 2]])
        moment &= 2
        self.assertEqual([before.writers(), moment.writers()], [[1], [2]])
        moment -= 2
        self.assertEqual([before.writers(), moment.writers()], [[1], []])

    def check(self, moment, writers):
        self.assertIs(moment.__class__, Moment)
        self.assertEqual(moment.writers(), sorted(writers))


class OrderTest(Case):
    def test_the_six_comparisons(self):
        for one in SOME:
            for other in SOME:
                with self.subTest(one=one, other=other):
                    a, b, x, y = Moment(*one), Moment(*other), set(one), set(other)
                    self.assertIs(a <= b, x <= y)
                    self.assertIs(a < b, x < y)
                    self.assertIs(a >= b, x >= y)
                    self.assertIs(a > b, x > y)
                    self.assertIs(a == b, x == y)
                    self.assertIs(a != b, x != y)

    def test_equal_by_writers_alone(self):
        self.assertIs(Moment(1, 2, 2) == Moment(2, 1), True)
        self.assertIs(Moment(1, 2) == Moment.of(6), True)
        self.assertIs(Moment() == Moment.of(0), True)

    def test_equal_to_nothing_else(self):
        others = [value for value in strange_values() if not isinstance(value, Moment)]
        for moment in [Moment(), Moment(0), Moment(1)]:
            for value in [0, 1, 2, True, False, "", "0", [0], {0}, (0,), Row(0), *others]:
                self.assertIs(moment == value, False)
                self.assertIs(value == moment, False)
                self.assertIs(moment != value, True)
