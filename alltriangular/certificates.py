"""Claims for the checker, with certificates that it accepts."""

from alltriangular.alike import alike, parted
from alltriangular.checks import check_lot
from alltriangular.views import barred, barring_word, layer_view, layers, view
from alltriangular.words import words


def certify_plain(lot):
    """The claim that the lot is triangular over fractions, or what bars it, with a certificate."""
    bar = barred(lot)
    if bar is None:
        return (("plain", lot.text), view(lot))
    if bar[0] == "word":
        return (("barred", lot.text), bar[1:])
    return (("rough", lot.text), bar[1])


def certify_roots(lot):
    """The claim that the lot is triangular over roots, or what bars it, with a certificate."""
    check_lot(lot)
    triple = barring_word(lot)
    if triple is not None:
        return (("barred", lot.text), triple)
    return (("roots", lot.text), (layers(lot)[::-1], layer_view(lot)))


def certify_words(lot):
    """The claim how many basis words there are, with a certificate."""
    found = words(lot)
    return (("words", lot.text, len(found)), found)


def certify_alike(lot, other):
    """The claim that two lots are alike, or that a word parts them, with a certificate; None if neither is so."""
    found = alike(lot, other)
    if found is not None:
        return (("alike", lot.text, other.text), found)
    word = parted(lot, other)
    if word is None:
        return None
    return (("parted", lot.text, other.text), word)
