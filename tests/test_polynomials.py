"""Point [21] and section polynomials.py."""

import random

from sharedscopes.errors import NoContents, TooMany
from sharedscopes.polynomials import is_polynomial, product_of, sum_of, value_at
from tests.samples import STRANGE, Case, Likeness
from tests.worths import Beyond, added, multiplied, told, worth_at

X, Y, Z = (1, 0), (2, 0), (2, 3)

# 0, 1, x, and 3 + 2x + xxy + y
NOTHING, ONE, JUST_X = (), (((), 1),), (((X,), 1),)
MIXED = (((), 3), ((X,), 2), ((X, X, Y), 1), ((Y,), 1))


def powers(many, factor=1):
    """1 + x + xx + .., so many terms."""
    return tuple(((X,) * times, factor) for times in range(many))


def stamps(many):
    return [(time, hand) for time in range(1, 31) for hand in range(4)][:many]


def row_of(many):
    """The sum of so many variables."""
    return tuple(((stamp,), 1) for stamp in stamps(many))


# What is no polynomial.
BENT = (
    (((X,), 0),), (((X,), 9973),), (((X,), -1),), (((X,), True),), (((X,), 1.0),), (((X,), "1"),), (((X,), None),),
    (((), 0),), (((), True),), (((X,), 2), ((), 1)), (((X,), 1), ((X,), 1)), (((X,), 1), ((X,), 2)), (((Y,), 1), ((X,), 1)),
    (((X, Y), 1), ((X,), 1)), (((Y, X), 1),), (((X, Y, X), 1),), (([X], 1),), (((X,), 1, 1),), (((X,),),), ((X, 1),), [((X,), 1)],
    ([(X,), 1],), ((None, 1),), (("x", 1),), (((None,), 1),), ((((0, 0),), 1),), ((((1, 4),), 1),), ((((1000, 0),), 1),),
    ((((1, False),), 1),), ((((True, 0),), 1),), ((([1, 0],), 1),), (((Likeness(),), 1),), (((X,), Likeness()),), ((X,), 1),
    (((X,) * 100, 1),), (((X,) + (Y,) * 100, 1),), (((X,) * 250, 1),), powers(101), (((X,), 1), None), (((X,), 1), 7), {(X,): 1}, 0, 1,
    (((), 1), ((), 1)), row_of(101),
)


class PolynomialTest(Case):
    def test_polynomials(self):
        for value in (NOTHING, ONE, JUST_X, MIXED, (((), 9972),), (((X,), 9972),), (((X, X), 1),), (((X,), 1), ((X, Y), 1), ((Y,), 1)),
                      (((X,) * 99, 1),), (((X,) * 99 + (Y,) * 99 + (Z,) * 99, 5),), powers(100), row_of(100),
                      ((((999, 3),), 1),), (((Y, Z), 1),)):
            self.assertIs(True, is_polynomial(value), value)
        self.assertIs(True, is_polynomial(value=()))

    def test_others(self):
        for value in (*BENT, *STRANGE):
            if value != () or isinstance(value, Likeness):
                self.assertIs(False, is_polynomial(value), value)


class SumTest(Case):
    def test_sums(self):
        self.tells(NOTHING, sum_of(NOTHING, NOTHING))
        self.tells((((), 1), ((X,), 1)), sum_of(JUST_X, ONE))
        self.tells((((X,), 2),), sum_of(JUST_X, JUST_X))
        self.tells((((), 4), ((X,), 3), ((X, X, Y), 1), ((Y,), 1)), sum_of(one=MIXED, other=sum_of(ONE, JUST_X)))

    def test_remainders(self):
        self.tells((((X,), 9972),), sum_of((((X,), 9971),), JUST_X))
        self.tells(NOTHING, sum_of((((X,), 9972),), JUST_X))
        self.tells((((X,), 1),), sum_of((((X,), 9972),), (((X,), 2),)))
        self.tells(ONE, sum_of((((), 1), ((X,), 9972)), JUST_X))

    def test_bounds(self):
        many = row_of(120)
        self.tells(many[:100], sum_of(many[:60], many[60:100]))
        self.refused(TooMany, 100, sum_of, many[:60], many[60:101])
        self.refused(TooMany, 100, sum_of, many[:100], many[100:])
        less = tuple((variables, 9972) for variables, _ in many[:100])
        self.tells(NOTHING, sum_of(many[:100], less))
        # What cancels out does not count.
        self.tells(tuple(sorted(many[1:101])), sum_of(many[:100], (less[0], many[100])))


class ProductTest(Case):
    def test_products(self):
        self.tells(NOTHING, product_of(NOTHING, MIXED))
        self.tells(NOTHING, product_of(MIXED, NOTHING))
        self.tells(MIXED, product_of(ONE, MIXED))
        self.tells(MIXED, product_of(one=MIXED, other=ONE))
        self.tells((((X, X), 1),), product_of(JUST_X, JUST_X))
        self.tells((((X, Y), 6),), product_of((((Y,), 2),), (((X,), 3),)))
        # (1 + x)(1 - x) = 1 - xx
        self.tells((((), 1), ((X, X), 9972)), product_of((((), 1), ((X,), 1)), (((), 1), ((X,), 9972))))

    def test_variables_in_order(self):
        self.tells((((X, Y, Y, Z), 1),), product_of((((Y, Z), 1),), (((X, Y), 1),)))

    def test_remainders(self):
        self.tells((((), 1),), product_of((((), 9972),), (((), 9972),)))
        self.tells((((X,), 27),), product_of((((), 100),), (((X,), 100),)))

    def test_bounds(self):
        self.tells((((X,) * 99, 1),), product_of((((X,) * 50, 1),), (((X,) * 49, 1),)))
        self.refused(TooMany, 100, product_of, (((X,) * 50, 1),), (((X,) * 50, 1),))
        self.refused(TooMany, 100, product_of, (((X,) * 99, 1),), JUST_X)
        self.tells((((X,) * 99 + (Y,), 1),), product_of((((X,) * 99, 1),), (((Y,), 1),)))
        self.tells(row_of(100), product_of(row_of(100), ONE))
        self.tells(100, len(product_of(row_of(10), tuple(((stamp,), 1) for stamp in stamps(20)[10:]))))
        self.refused(TooMany, 100, product_of, row_of(10), tuple(((stamp,), 1) for stamp in stamps(21)[10:]))
        # Ten variables, squared, are 55 terms; fourteen are 105.
        self.tells(55, len(product_of(row_of(10), row_of(10))))
        self.tells(91, len(product_of(row_of(13), row_of(13))))
        self.refused(TooMany, 100, product_of, row_of(14), row_of(14))
        self.refused(TooMany, 100, product_of, row_of(100), row_of(100))
        self.tells(NOTHING, product_of(row_of(100), NOTHING))
        self.tells(100, len(product_of(powers(50), powers(51))))
        self.refused(TooMany, 100, product_of, powers(51), powers(51))
        # What cancels out does not count: (1 - x)(1 + x + ..) = 1 - x * .. * x
        self.tells((((), 1), ((X,) * 99, 9972)), product_of((((), 1), ((X,), 9972)), powers(99)))


class ValueTest(Case):
    def test_values(self):
        self.tells(0, value_at(NOTHING, {}))
        self.tells(1, value_at(ONE, {}))
        self.tells(7, value_at(JUST_X, {X: 7}))
        self.tells(3 + 14 + 49 * 5 + 5, value_at(polynomial=MIXED, contents={X: 7, Y: 5}))
        self.tells(3, value_at(MIXED, {Y: 0, X: 0}))
        self.tells(9801, value_at((((X, Y), 1),), {X: 99, Y: 99}))
        self.tells(99 ** 99 * 9972 % 9973, value_at((((X,) * 99, 9972),), {X: 99}))
        self.tells(0, value_at((((), 9972), ((X,), 1)), {X: 1}))

    def test_more_contents_than_variables(self):
        self.tells(7, value_at(JUST_X, {Z: 3, X: 7, (999, 3): 99}))

    def test_wrong_contents(self):
        for contents in ({}, {Y: 1}, {X: 100}, {X: -1}, {X: True}, {X: 1.0}, {X: None}, {X: "1"}, {X: 1, Y: 100}, {X: 1, None: 1},
                         {X: 1, (0, 0): 1}, {X: 1, "x": 1}, {X: 1, (1, 4): 1}, {(1, False): 1}, {(True, 0): 1}, {(1.0, 0): 1},
                         {Likeness(): 1}, {X: Likeness()}, {X: 1, 5: 5}, [(X, 1)], ((X, 1),), None, 5, "x", (), [], X):
            self.refused(NoContents, contents, value_at, JUST_X, contents)
        for contents in STRANGE:
            self.refused(NoContents, contents, value_at, JUST_X, contents)
        for contents in ({X: 1}, {X: 1, (0, 0): 1}, {Y: 1}):
            self.refused(NoContents, contents, value_at, (((X, Y), 1),), contents)
        self.refused(NoContents, {5: 1}, value_at, NOTHING, {5: 1})
        self.refused(NoContents, None, value_at, NOTHING, None)


class WrongTest(Case):
    def test_no_polynomials(self):
        for value in (*BENT, *STRANGE):
            if value != () or isinstance(value, Likeness):
                for call in (sum_of, product_of):
                    self.refused(NoContents, value, call, value, None)
                    self.refused(NoContents, value, call, JUST_X, value)
                self.refused(NoContents, value, value_at, value, None)


class RandomTest(Case):
    def drawn(self, rng):
        terms = {}
        for _ in range(rng.choice([0, 1, 2, 3, 8, 12, 60])):
            variables = tuple(sorted(rng.choice(stamps(rng.choice([2, 5, 30]))) for _ in range(rng.randint(0, 5))))
            terms[variables] = rng.choice([1, 2, 9971, 9972, rng.randint(1, 9972)])
        return tuple(sorted(terms.items()))

    def test_as_the_document_says(self):
        refused = 0
        for seed in range(400):
            rng = random.Random(seed)
            one, other = self.drawn(rng), self.drawn(rng)
            contents = {stamp: rng.choice([0, 1, 99, rng.randrange(100)]) for stamp in stamps(30)}
            self.assertIs(True, is_polynomial(one))
            self.tells(worth_at(one, contents), value_at(one, contents))
            for call, model, sign in ((sum_of, added, lambda a, b: a + b), (product_of, multiplied, lambda a, b: a * b)):
                try:
                    expected = told(model(dict(one), dict(other)))
                except Beyond:
                    refused += 1
                    self.refused(TooMany, 100, call, one, other)
                    continue
                found = call(one, other)
                self.tells(expected, found)
                self.tells(found, call(other, one))
                self.assertIs(True, is_polynomial(found))
                worth = sign(value_at(one, contents), value_at(other, contents)) % 9973
                self.tells(worth, value_at(found, contents))
        self.assertGreater(refused, 30)
