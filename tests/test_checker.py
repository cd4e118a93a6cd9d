import unittest
from itertools import product

from alltriangular.alike import alike, parted
from alltriangular.certificates import certify_alike, certify_plain, certify_roots, certify_words
from alltriangular.checker import accepts
from alltriangular.lots import Lot
from alltriangular.views import barred, layer_view, layers, over_fractions, over_roots, view
from alltriangular.words import words
from claims_made import is_true, near, near_claims, shows
from lots_made import all_lots, edge_lots, far_lots, triangular_lots, turning_lots
from pairs_made import all_pairs, alike_pairs, great_pairs, same_numbers, unlike_shapes
from reckoning import determinant, made, searched_words, unit_table
from samples import MOST, STAIRS, SWING, TURN, Sly, filled, odd_values, written

TEXT, SWING_TEXT, TURN_TEXT = written(STAIRS), written(SWING), written(TURN)
UPSIDE = (((1, 0), (1, 1)), ((3, 0), (0, 2)))
NESTED = [(((((((((),),),),),),),),), [[[[[[[[[]]]]]]]]], {1: {2: {3: [(None,)]}}}, ((("plain", TEXT),),), [("plain", TEXT)]]

# Made by hand: one good claim and certificate and more for each word of claims.
BY_HAND = [
    (("plain", TEXT), ((1, 0), (0, 1))), (("plain", TEXT), ((1, 5), (0, -3))), (("plain", TEXT), ((10 ** 40, 1), (0, 1))),
    (("plain", written((((5,),),))), ((7,),)), (("plain", written((((0, 1), (1, 0)),))), ((1, 1), (1, -1))),
    (("plain", written(UPSIDE)), ((0, 1), (1, 0))), (("plain", written((filled(2, MOST),))), ((1, 1), (1, 0))),
    (("roots", TURN_TEXT), ((2,), ((1, 0), (0, 1)))), (("roots", TURN_TEXT), ((2,), ((3, 1), (1, 2)))),
    (("roots", TEXT), ((1, 1), ((1, 0), (0, 1)))), (("roots", TEXT), ((1, 1), ((2, 7), (0, 1)))),
    (("roots", written((((5,),), ((6,),)))), ((1,), ((1,),))),
    (("roots", written((((0, -1, 4), (1, 0, 5), (0, 0, 2)),))), ((2, 1), ((1, 0, 0), (0, 1, 0), (0, 0, 1)))),
    (("roots", written((((0, -1, 4), (1, 0, 5), (0, 0, 2)),))), ((3,), ((1, 0, 0), (0, 1, 0), (0, 0, 1)))),
    (("barred", SWING_TEXT), (0, 1, (0, 1))), (("barred", SWING_TEXT), (0, 1, (1, 0))), (("barred", SWING_TEXT), (0, 1, (0, 1) * 20)),
    (("barred", written((unit_table(2),) + SWING)), (1, 2, (1, 0, 2))),
    (("rough", TURN_TEXT), 0), (("rough", written((unit_table(2),) + TURN)), 1), (("rough", written((((0, 2), (1, 0)),) * 3)), 2),
    (("words", TEXT, 3), ((), (0,), (1,))), (("words", TEXT, 3), ((1,), (0, 0), ())), (("words", TURN_TEXT, 2), ((), (0,))),
    (("words", TURN_TEXT, 2), ((0, 0, 0), ())), (("words", TURN_TEXT, 2), ((), (0,) * 39)),
    (("words", SWING_TEXT, 4), ((), (0,), (1,), (0, 1))), (("words", SWING_TEXT, 4), ((1, 0), (), (1,), (0,))),
    (("words", written((unit_table(3),) * 2), 1), ((),)),
    (("alike", TEXT, written(UPSIDE)), ((0, 1), (1, 0))), (("alike", TEXT, TEXT), ((5, 0), (0, 5))),
    (("alike", written((((0, 5), (0, 0)),)), written((((0, 1), (0, 0)),))), ((1, 7), (0, 5))),
    (("parted", TEXT, TURN_TEXT), ()), (("parted", TEXT, SWING_TEXT), (0,)), (("parted", TEXT, SWING_TEXT), (1, 0, 1)),
    (("parted", TURN_TEXT, written((((1,),),))), ()), (("parted", TEXT, SWING_TEXT), (1,) * 40),
]

WRONG_BY_HAND = [
    (("plain", TEXT), ((0, 1), (1, 0))), (("plain", TEXT), ((1, 1), (0, 0))), (("plain", TURN_TEXT), ((1, 0), (0, 1))),
    (("plain", SWING_TEXT), ((1, 0), (0, 1))), (("plain", TEXT), ((1, 0, 0), (0, 1, 0), (0, 0, 1))), (("plain", TEXT), ((True, 0), (0, 1))),
    (("plain", TEXT), [[1, 0], [0, 1]]), (("plain", TEXT), ([1, 0], [0, 1])), (("plain", TEXT, ()), ((1, 0), (0, 1))),
    (("roots", TURN_TEXT), ((1, 1), ((1, 0), (0, 1)))), (("roots", TEXT), ((2,), ((1, 0), (0, 1)))),
    (("roots", SWING_TEXT), ((2,), ((1, 0), (0, 1)))), (("roots", SWING_TEXT), ((1, 1), ((1, 0), (0, 1)))),
    (("roots", TURN_TEXT), ((2,), ((1, 1), (1, 1)))), (("roots", TURN_TEXT), ((2, 0), ((1, 0), (0, 1)))),
    (("roots", TURN_TEXT), ((0, 2), ((1, 0), (0, 1)))), (("roots", TURN_TEXT), ((3, -1), ((1, 0), (0, 1)))),
    (("roots", TURN_TEXT), ((1,), ((1, 0), (0, 1)))), (("roots", TURN_TEXT), ((2, 1), ((1, 0), (0, 1)))),
    (("roots", TURN_TEXT), ((), ((1, 0), (0, 1)))), (("roots", TURN_TEXT), ([2], ((1, 0), (0, 1)))),
    (("roots", TURN_TEXT), [(2,), ((1, 0), (0, 1))]), (("roots", written((((5,),),))), ((True,), ((1,),))),
    (("roots", TEXT), ((1, 1), ((0, 1), (1, 0)))),
    (("roots", written((((0, -1, 4), (1, 0, 5), (0, 0, 2)),))), ((1, 2), ((1, 0, 0), (0, 1, 0), (0, 0, 1)))),
    (("barred", SWING_TEXT), (1, 0, (0, 1))), (("barred", SWING_TEXT), (0, 1, ())), (("barred", SWING_TEXT), (0, 1, (0, 0))),
    (("barred", SWING_TEXT), (0, 0, (0, 1))), (("barred", SWING_TEXT), (0, 2, (0, 1))), (("barred", SWING_TEXT), (-2, 1, (0, 1))),
    (("barred", SWING_TEXT), (0, 1, (0, 2))), (("barred", SWING_TEXT), (0, 1, [0, 1])), (("barred", SWING_TEXT), [0, 1, (0, 1)]),
    (("barred", SWING_TEXT), (False, True, (0, 1))), (("barred", SWING_TEXT), (0, True, (0, 1))), (("barred", SWING_TEXT), (0, 1, (False, True))),
    (("barred", SWING_TEXT), (0, 1, (0, 1) * 21)), (("barred", SWING_TEXT), (0, 1, (0, 1) * 20 + (0, 1))), (("barred", TEXT), (0, 1, (0, 1))),
    (("barred", SWING_TEXT), (0, 1)), (("barred", SWING_TEXT), (0, 1, (0, 1), ())),
    (("rough", TURN_TEXT), 1), (("rough", TURN_TEXT), -1), (("rough", TURN_TEXT), False), (("rough", TEXT), 0), (("rough", TEXT), 1),
    (("rough", written((unit_table(2),) + TURN)), 0), (("rough", written((unit_table(2),) + TURN)), True), (("rough", TURN_TEXT), (0,)),
    (("rough", SWING_TEXT), 0),
    (("words", TEXT, 2), ((), (0,))), (("words", TEXT, 3), ((), (0,))), (("words", TEXT, 2), ((), (0,), (1,))),
    (("words", TEXT, 3), ((0,), (1,), (0, 1))), (("words", TEXT, 3), ((), (0,), (0, 0))), (("words", TEXT, 4), ((), (0,), (1,), (0, 1))),
    (("words", TEXT, 3), ((), (0,), (0,))), (("words", TEXT, 3), [(), (0,), (1,)]), (("words", TEXT, 3), ([], (0,), (1,))),
    (("words", TEXT, 3), ((), (False,), (True,))), (("words", written((unit_table(2),)), True), ((),)), (("words", TEXT, "3"), ((), (0,), (1,))),
    (("words", SWING_TEXT, 3), ((), (0,), (1,))), (("words", SWING_TEXT, 4), ((), (0,), (1,), (0, 0))), (("words", TEXT, 0), ()),
    (("words", TURN_TEXT, 2), ((), (0,) * 41)), (("words", TURN_TEXT, 2), ((), (1,))), (("words", TURN_TEXT, 1), ((),)),
    (("words", TEXT), ((), (0,), (1,))), (("words", TURN_TEXT, 1), ((0,),)),
    (("alike", TEXT, written(UPSIDE)), ((1, 0), (0, 1))), (("alike", TEXT, TEXT), ((0, 0), (0, 0))), (("alike", TEXT, TURN_TEXT), ((1, 0), (0, 1))),
    (("alike", written((((0, 5), (0, 0)),)), written((((0, 1), (0, 0)),))), ((5, 0), (0, 1))),
    (("alike", TEXT, TEXT), ((True, 0), (0, True))), (("alike", TEXT), ((1, 0), (0, 1))), (("alike", TEXT, TEXT, TEXT), ((1, 0), (0, 1))),
    (("alike", written((((1, 0), (0, 1)), ((5, 0), (0, 5)))), written((((1, 0), (0, 1)),))), ((1, 0), (0, 1))),
    (("parted", TEXT, SWING_TEXT), ()), (("parted", TEXT, TEXT), ()), (("parted", TEXT, TEXT), (0,)), (("parted", TEXT, TURN_TEXT), (0,)),
    (("parted", TEXT, TURN_TEXT), []), (("parted", TEXT, TURN_TEXT), ((),)), (("parted", TEXT, SWING_TEXT), (2,)), (("parted", TEXT, TURN_TEXT), None),
    (("parted", TEXT, SWING_TEXT), [0]), (("parted", TEXT, SWING_TEXT), (False,)), (("parted", TEXT, SWING_TEXT), (1,) * 41),
    (("parted", TEXT, TURN_TEXT), ""), (("parted", TEXT), ()), (("parted", TEXT, "lot 2"), ()), (("parted", "lot 2", TEXT), ()),
]


def some_pairs_of(lots):
    """What the program certifies of lots."""
    found = []
    for lot in lots:
        found += [certify_plain(lot), certify_roots(lot), certify_words(lot), certify_alike(lot, lot)]
    return found


class ByHandTest(unittest.TestCase):
    def test_good_ones(self):
        for claim, certificate in BY_HAND:
            self.assertIs(shows(claim, certificate), True, (claim, certificate))
            self.assertIs(is_true(claim), True)
            self.assertIs(accepts(claim, certificate), True, (claim, certificate))
            self.assertIs(accepts(claim=claim, certificate=certificate), True)
            self.assertIs(accepts(certificate=certificate, claim=claim), True)
        self.assertEqual({claim[0] for claim, _ in BY_HAND}, {"plain", "roots", "barred", "rough", "words", "alike", "parted"})

    def test_wrong_ones(self):
        for claim, certificate in WRONG_BY_HAND:
            self.assertIs(shows(claim, certificate), False, (claim, certificate))
            self.assertIs(accepts(claim, certificate), False, (claim, certificate))
            self.assertIs(accepts(certificate=certificate, claim=claim), False)

    def test_near_ones(self):
        for claim, certificate in BY_HAND:
            for other in near(claim, certificate) + odd_values():
                self.assertIs(accepts(claim, other), shows(claim, other), (claim, other))
            for other in near_claims(claim):
                self.assertIs(accepts(other, certificate), shows(other, certificate), (other, certificate))

    def test_certificates_of_other_claims(self):
        kinds = {True: 0, False: 0}
        for claim, _ in BY_HAND:
            for _, certificate in BY_HAND:
                found = accepts(claim, certificate)
                self.assertIs(found, shows(claim, certificate))
                kinds[found] += 1
        self.assertGreater(min(kinds.values()), 50)


class ValuesTest(unittest.TestCase):
    """Claims and certificates that are values of any kind: False, and never an error."""

    def test_claims(self):
        for claim in odd_values() + NESTED + ["", "plain", (), ("",), ("plain",), (TEXT,), ("plain", TEXT, TEXT), TEXT, Sly(), (Sly(), Sly()),
                                              ("plain", Sly()), (Sly(), TEXT), ("words", TEXT, Sly()), ("alike", TEXT, Sly()),
                                              ("plain", TEXT + "\n"), ("plain", Lot(STAIRS)), ("PLAIN", TEXT), (1, TEXT), (None, TEXT),
                                              (["plain"], TEXT), ({}, TEXT), (b"plain", TEXT), ("plain", "x" * 4000), ("plain", "")]:
            for certificate in (((1, 0), (0, 1)), (), 0, None, Sly(), ((2,), ((1, 0), (0, 1))), claim):
                self.assertIs(accepts(claim, certificate), False, (claim, certificate))

    def test_certificates(self):
        texts = (TEXT, SWING_TEXT, TURN_TEXT, written((((5,),),)))
        claims = [(word, text) for word in ("plain", "roots", "barred", "rough") for text in texts]
        claims += [("words", text, many) for text in texts for many in (0, 1, 2, 3, 4, 10 ** 40)]
        claims += [(word, text, other) for word in ("alike", "parted") for text in texts for other in texts]
        for claim in claims:
            for certificate in odd_values() + NESTED + ["", "0", "10", (None,), ((),), ((), ()), (None, None), (None, None, None), (0, 1, None),
                                                        (Sly(), Sly()), (Sly(), Sly(), Sly()), ((Sly(), 0), (0, Sly())), claim, (0, 1, ((),))]:
                self.assertIs(accepts(claim, certificate), shows(claim, certificate), (claim, certificate))

    def test_great_numbers(self):
        """Certificates of forty digits and more are judged like small ones."""
        great = 10 ** 40 + 7
        self.assertIs(accepts(("plain", TEXT), ((great, great ** 2), (0, -great))), True)
        self.assertIs(accepts(("plain", TEXT), ((great, great ** 2), (1, -great))), False)
        self.assertIs(accepts(("roots", TURN_TEXT), ((2,), ((great, 1), (1, great)))), True)
        self.assertIs(accepts(("roots", TURN_TEXT), ((great,), ((great, 1), (1, great)))), False)
        self.assertIs(accepts(("alike", TEXT, TEXT), ((great, 0), (0, great))), True)
        self.assertIs(accepts(("alike", TEXT, TEXT), ((great, 0), (0, great + 1))), False)
        self.assertIs(accepts(("words", TEXT, great), ((), (0,), (1,))), False)
        self.assertIs(accepts(("rough", TURN_TEXT), great), False)
        self.assertIs(accepts(("barred", SWING_TEXT), (0, great, (0, 1))), False)

    def test_nothing_is_changed(self):
        kept = [(repr(claim), repr(certificate)) for claim, certificate in BY_HAND + WRONG_BY_HAND]
        first = [accepts(claim, certificate) for claim, certificate in BY_HAND + WRONG_BY_HAND]
        again = [accepts(claim, certificate) for claim, certificate in (BY_HAND + WRONG_BY_HAND)[::-1]]
        self.assertEqual(again[::-1], first)
        self.assertEqual([(repr(claim), repr(certificate)) for claim, certificate in BY_HAND + WRONG_BY_HAND], kept)


class ProgramTest(unittest.TestCase):
    def test_what_the_program_certifies(self):
        for claim, certificate in some_pairs_of(all_lots()):
            self.assertIs(accepts(claim, certificate), True, (claim, certificate))
            self.assertIs(shows(claim, certificate), True)
            self.assertIs(is_true(claim), True, claim)

    def test_near_ones(self):
        """What is near a good certificate is accepted exactly if it is a good one, by the tests' own sums."""
        kinds = {}
        for claim, certificate in some_pairs_of(all_lots()[::9] + far_lots()[:1]):
            for other in near(claim, certificate):
                found = accepts(claim, other)
                self.assertIs(found, shows(claim, other), (claim, other))
                kinds[claim[0], found] = kinds.get((claim[0], found), 0) + 1
        for word in ("plain", "roots", "barred", "words", "alike"):
            self.assertGreater(min(kinds[word, True], kinds[word, False]), 20, (word, kinds))
        self.assertGreater(min(kinds["rough", True], kinds["rough", False]), 1, kinds)

    def test_parted_ones(self):
        for lot, other in all_pairs()[::11]:
            pair = certify_alike(lot, other)
            if pair is not None:
                for found in near(*pair):
                    self.assertIs(accepts(pair[0], found), shows(pair[0], found), (pair[0], found))

    def test_near_claims(self):
        for claim, certificate in some_pairs_of(all_lots()[::17]):
            for other in near_claims(claim):
                self.assertIs(accepts(other, certificate), shows(other, certificate), (other, certificate))

    def test_what_is_accepted_is_true(self):
        """Many certificates, whoever would write them, for claims that are true and that are not."""
        accepted = 0
        views = [((a, b), (c, d)) for a, b, c, d in product((-1, 0, 1), repeat=4)]
        indexes = [(0, 1, word) for length in range(4) for word in product((0, 1), repeat=length)]
        lots = [lot for lot in all_lots() if lot.size == 2][::3]
        for lot in lots:
            for claim, certificates in ((("plain", lot.text), views), (("roots", lot.text), [((2,), one) for one in views]),
                                        (("roots", lot.text), [((1, 1), one) for one in views]), (("barred", lot.text), indexes),
                                        (("rough", lot.text), range(4))):
                for certificate in certificates:
                    if accepts(claim, certificate):
                        self.assertIs(is_true(claim), True, (claim, certificate))
                        accepted += 1
            for other in lots:
                for certificate in views + [()] + [word for _, _, word in indexes]:
                    for claim in (("alike", lot.text, other.text), ("parted", lot.text, other.text)):
                        if accepts(claim, certificate):
                            self.assertIs(is_true(claim), True, (claim, certificate))
                            accepted += 1
        self.assertGreater(accepted, 1000)

    def test_words_that_are_no_basis_words(self):
        """Any words whose products are a basis will do; others will not."""
        lots = [Lot(STAIRS), Lot(SWING), Lot(TURN), Lot((((0, 1, 0), (0, 0, 1), (0, 0, 0)),))]
        for lot in lots:
            some = [word for length in range(3) for word in product(range(len(lot)), repeat=length)]
            for many in (1, 2, 3, 4):
                for chosen in product(some, repeat=many) if many < 4 or len(lot) == 1 else []:
                    found = accepts(("words", lot.text, many), chosen)
                    self.assertIs(found, shows(("words", lot.text, many), chosen))
                    if found:
                        self.assertEqual(many, len(searched_words(lot.tables)))

    def test_views_of_the_program(self):
        for lot in triangular_lots():
            self.assertIs(accepts(("plain", lot.text), view(lot)), True)
            self.assertIs(accepts(("roots", lot.text), ((1,) * lot.size, view(lot))), True)
        for lot in all_lots():
            told = accepts(("roots", lot.text), (layers(lot)[::-1], layer_view(lot)))
            self.assertIs(told, over_roots(lot))
            self.assertIs(accepts(("plain", lot.text), layer_view(lot)) and not over_fractions(lot), False)
            bar = barred(lot)
            self.assertIs(bar is not None and bar[0] == "word" and not accepts(("barred", lot.text), bar[1:]), False)
            self.assertIs(accepts(("words", lot.text, len(words(lot))), words(lot)), True)

    def test_own_numbers(self):
        for lot in turning_lots() + edge_lots():
            for at in range(-1, 4):
                self.assertIs(accepts(("rough", lot.text), at), shows(("rough", lot.text), at))
                if accepts(("rough", lot.text), at):
                    self.assertIs(over_fractions(lot), False)

    def test_likeness(self):
        for lot, other in alike_pairs() + great_pairs():
            found = alike(lot, other)
            self.assertIs(accepts(("alike", lot.text, other.text), found), True)
            back = tuple(tuple(number * 3 for number in row) for row in found)
            self.assertIs(accepts(("alike", lot.text, other.text), back), True)
            self.assertNotEqual(determinant(found), 0)
            self.assertIs(accepts(("alike", other.text, lot.text), found),
                          all(made(found, two) == made(one, found) for one, two in zip(lot.tables, other.tables)))
        for lot, other in same_numbers():
            for one in near(("alike", lot.text, lot.text), unit_table(lot.size)):
                self.assertIs(accepts(("alike", lot.text, other.text), one), False)
            for word in product(range(len(lot)), repeat=3):
                self.assertIs(accepts(("parted", lot.text, other.text), word), False)

    def test_unlike_shapes(self):
        for lot, other in unlike_shapes():
            self.assertEqual(parted(lot, other), ())
            self.assertIs(accepts(("parted", lot.text, other.text), ()), True)
            for wrong in ((0,), [], None, "", 0, False, ((),), [()], Sly()):
                self.assertIs(accepts(("parted", lot.text, other.text), wrong), False)
            for size in (lot.size, other.size):
                self.assertIs(accepts(("alike", lot.text, other.text), unit_table(size)), False)
        for lot in all_lots()[::5]:
            self.assertIs(accepts(("parted", lot.text, lot.text), ()), False)


if __name__ == "__main__":
    unittest.main()
