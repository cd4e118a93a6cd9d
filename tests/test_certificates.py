import unittest

from alltriangular.alike import alike, parted
from alltriangular.certificates import certify_alike, certify_plain, certify_roots, certify_words
from alltriangular.checker import accepts
from alltriangular.lots import Lot
from alltriangular.views import barred
from alltriangular.words import words
from claims_made import is_true, shows
from lots_made import all_lots, turning_lots
from pairs_made import alike_pairs, all_pairs, far_parted, same_numbers, unlike_shapes
from raising import Raising
from reckoning import searched_words
from samples import STAIRS, SWING, TURN, Sly, no_lots, written
from searching import alike_by_trying, bar_by_search, own_counted


class Certificates(unittest.TestCase):
    def is_good(self, pair, *claim):
        """A pair of this claim and a certificate that is accepted, and shows what is true."""
        self.assertEqual((pair.__class__, len(pair), pair[0].__class__), (tuple, 2, tuple))
        self.assertEqual(pair[0], claim)
        self.assertEqual([part.__class__ for part in pair[0]], [part.__class__ for part in claim])
        self.assertIs(accepts(*pair), True, pair)
        self.assertIs(shows(*pair), True, pair)
        self.assertIs(is_true(pair[0]), True, pair)


class OneLotTest(Certificates):
    def test_plain(self):
        kinds = {}
        for lot in all_lots():
            bar = bar_by_search(lot.tables)
            word = "plain" if bar is None else "barred" if bar[0] == "word" else "rough"
            for pair in (certify_plain(lot), certify_plain(lot=lot)):
                self.is_good(pair, word, written(lot.tables))
            if word == "barred":
                self.assertEqual(pair[1], barred(lot)[1:])
            if word == "rough":
                self.assertLess(own_counted(lot.tables[pair[1]]), lot.size)
            kinds[word] = kinds.get(word, 0) + 1
        self.assertGreater(min(kinds.values()), 15, kinds)
        self.assertEqual(len(kinds), 3)

    def test_roots(self):
        kinds = {"roots": 0, "barred": 0}
        for lot in all_lots():
            bar = bar_by_search(lot.tables)
            word = "barred" if bar is not None and bar[0] == "word" else "roots"
            for pair in (certify_roots(lot), certify_roots(lot=lot)):
                self.is_good(pair, word, written(lot.tables))
            kinds[word] += 1
        self.assertGreater(min(kinds.values()), 30, kinds)
        for lot in turning_lots():
            self.is_good(certify_roots(lot), "roots", lot.text)
            self.is_good(certify_plain(lot), "rough", lot.text)

    def test_words(self):
        for lot in all_lots():
            for pair in (certify_words(lot), certify_words(lot=lot)):
                self.is_good(pair, "words", written(lot.tables), len(searched_words(lot.tables)))
                self.assertEqual(sorted(pair[1]), sorted(words(lot)))

    def test_small_ones(self):
        stairs, swing, turn = Lot(STAIRS), Lot(SWING), Lot(TURN)
        self.assertEqual([certify_plain(lot)[0][0] for lot in (stairs, swing, turn)], ["plain", "barred", "rough"])
        self.assertEqual([certify_roots(lot)[0][0] for lot in (stairs, swing, turn)], ["roots", "barred", "roots"])
        self.assertEqual([certify_words(lot)[0][2] for lot in (stairs, swing, turn)], [3, 4, 2])
        self.assertEqual((certify_plain(turn)[1], certify_plain(swing)[1][:2]), (0, (0, 1)))


class TwoLotsTest(Certificates):
    def test_all_pairs(self):
        kinds = {}
        for lot, other in all_pairs():
            pair = certify_alike(lot, other)
            self.assertEqual(certify_alike(lot=lot, other=other), pair)
            word = None
            if alike_by_trying(lot.tables, other.tables):
                word = "alike"
            elif parted(lot, other) is not None:
                word = "parted"
            if word is None:
                self.assertIsNone(pair)
            else:
                self.is_good(pair, word, written(lot.tables), written(other.tables))
            kinds[word] = kinds.get(word, 0) + 1
        self.assertGreater(min(kinds.values()), 50, kinds)
        self.assertEqual(len(kinds), 3)

    def test_alike(self):
        for lot, other in alike_pairs():
            self.is_good(certify_alike(lot, other), "alike", lot.text, other.text)
            self.is_good(certify_alike(other, lot), "alike", other.text, lot.text)
        for lot in all_lots()[::3]:
            self.is_good(certify_alike(lot, lot), "alike", lot.text, lot.text)

    def test_parted(self):
        for lot, other, many in far_parted():
            pair = certify_alike(lot, other)
            self.is_good(pair, "parted", lot.text, other.text)
            self.assertEqual(len(pair[1]), many)

    def test_unlike_shapes(self):
        for lot, other in unlike_shapes():
            pair = certify_alike(lot, other)
            self.is_good(pair, "parted", lot.text, other.text)
            self.assertEqual(pair[1], ())

    def test_none_exactly_where_neither_is_so(self):
        for lot, other in same_numbers():
            self.assertIsNone(certify_alike(lot, other))
            self.assertEqual((alike(lot, other), parted(lot, other)), (None, None))
        for lot, other in all_pairs():
            neither = alike(lot, other) is None and parted(lot, other) is None
            self.assertIs(certify_alike(lot, other) is None, neither)


class AskingTest(unittest.TestCase):
    def test_the_same_again(self):
        lots = all_lots()[::3]
        first = [(certify_plain(lot), certify_roots(lot), certify_words(lot), certify_alike(lot, lot)) for lot in lots]
        again = [(certify_plain(lot), certify_roots(lot), certify_words(lot), certify_alike(lot, lot)) for lot in lots[::-1]]
        anew = [Lot.read(lot.text) for lot in lots]
        self.assertEqual(again[::-1], first)
        self.assertEqual([(certify_plain(lot), certify_roots(lot), certify_words(lot), certify_alike(lot, lot)) for lot in anew], first)

    def test_asking_changes_nothing(self):
        for lot, other in all_pairs()[::9]:
            kept = (dict(vars(lot)), dict(vars(other)))
            for action in (certify_plain, certify_roots, certify_words):
                action(lot)
            certify_alike(lot, other)
            self.assertEqual((vars(lot), vars(other)), kept)


class WrongTest(Raising, unittest.TestCase):
    def test_no_lot(self):
        right = Lot(STAIRS)
        for value in no_lots():
            for action in (certify_plain, certify_roots, certify_words):
                self.assert_raises_with(("NotLot", "given", value), action, ("lot", value))
            self.assert_raises_with(("NotLot", "given", value), certify_alike, ("lot", value), ("other", right))
            self.assert_raises_with(("NotLot", "given", value), certify_alike, ("lot", right), ("other", value))

    def test_the_first_one_comes_first(self):
        for value in (None, STAIRS, Sly(), Lot(TURN).text):
            for other in (True, [], Sly(), 0):
                self.assert_raises_with(("NotLot", "given", value), certify_alike, ("lot", value), ("other", other))


if __name__ == "__main__":
    unittest.main()
