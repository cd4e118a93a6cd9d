"""Claims and certificates as [16] tells them: judged by the tests' own sums, and changed a little."""

from functools import cache

from alltriangular.lots import Lot
from reckoning import (determinant, inside, less, made, made_column, row_behind_row, searched_words, unit_table, word_product,
                       word_trace)
from samples import Sly
from searching import alike_by_trying, bar_by_search, own_counted


def lot_of(text):
    """The tables of the lot with this text; None if there is none."""
    if text.__class__ is not str:
        return None
    try:
        return Lot.read(text).tables
    except ValueError:
        return None


def is_plain_integer(value):
    return value.__class__ is int


def is_plain_tuple(value):
    return value.__class__ is tuple


def is_view(value, size):
    return (is_plain_tuple(value) and len(value) == size
            and all(is_plain_tuple(row) and len(row) == size and all(is_plain_integer(one) for one in row) for row in value)
            and determinant(value) != 0)


def is_index(value, many):
    return is_plain_integer(value) and 0 <= value < many


def is_word(value, many):
    return is_plain_tuple(value) and len(value) <= 40 and all(is_index(at, many) for at in value)


def shows(claim, certificate):
    """Whether a certificate is one for a claim, point by point as the document tells it."""
    if not is_plain_tuple(claim) or len(claim) not in (2, 3) or claim[0].__class__ is not str:
        return False
    if claim[0] not in SHOWING or len(claim) != (2 if claim[0] in ("plain", "roots", "barred", "rough") else 3):
        return False
    tables = lot_of(claim[1])
    return tables is not None and SHOWING[claim[0]](tables, *claim[2:], certificate)


def shows_plain(tables, view):
    if not is_view(view, len(tables[0])):
        return False
    columns = list(zip(*view))
    return all(inside(columns[:at + 1], made_column(table, columns[at])) for table in tables for at in range(len(columns)))


def is_inside(columns, column):
    return inside(columns, column) if columns else not any(column)


def shows_roots(tables, certificate):
    if not is_plain_tuple(certificate) or len(certificate) != 2:
        return False
    sizes, view = certificate
    if not is_plain_tuple(sizes) or not all(is_plain_integer(size) and size >= 1 for size in sizes):
        return False
    if sum(sizes) != len(tables[0]) or not is_view(view, len(tables[0])):
        return False
    columns = list(zip(*view))
    for at, size in enumerate(sizes):
        begin = sum(sizes[:at])
        for column in columns[begin:begin + size]:
            for one in tables:
                if not is_inside(columns[:begin + size], made_column(one, column)):
                    return False
                for other in tables:
                    apart = less(made(one, other), made(other, one))
                    if not is_inside(columns[:begin], made_column(apart, column)):
                        return False
    return True


def shows_barred(tables, certificate):
    if not is_plain_tuple(certificate) or len(certificate) != 3:
        return False
    i, j, word = certificate
    if not is_index(i, len(tables)) or not is_index(j, len(tables)) or i >= j or not is_word(word, len(tables)):
        return False
    apart = less(made(tables[i], tables[j]), made(tables[j], tables[i]))
    return word_trace((apart, word_product(tables, word)), (0, 1)) != 0


def shows_rough(tables, index):
    return is_index(index, len(tables)) and own_counted(tables[index]) < len(tables[0])


def shows_words(tables, many, chosen):
    if not is_plain_integer(many) or not is_plain_tuple(chosen) or len(chosen) != many:
        return False
    if not all(is_word(word, len(tables)) for word in chosen) or () not in chosen:
        return False
    rows = [row_behind_row(word_product(tables, word)) for word in chosen]
    if any(inside(rows[:at], row) for at, row in enumerate(rows) if at):
        return False
    return all(inside(rows, row_behind_row(made(word_product(tables, word), table))) for word in chosen for table in tables)


def one_shape(tables, others):
    return len(tables) == len(others) and len(tables[0]) == len(others[0])


def shows_alike(tables, text, view):
    others = lot_of(text)
    if others is None or not one_shape(tables, others) or not is_view(view, len(tables[0])):
        return False
    return all(made(view, table) == made(other, view) for table, other in zip(tables, others))


def shows_parted(tables, text, word):
    others = lot_of(text)
    if others is None:
        return False
    if not one_shape(tables, others):
        return is_plain_tuple(word) and word == ()
    return is_word(word, len(tables)) and word_trace(tables, word) != word_trace(others, word)


SHOWING = {"plain": shows_plain, "roots": shows_roots, "barred": shows_barred, "rough": shows_rough, "words": shows_words,
           "alike": shows_alike, "parted": shows_parted}


@cache
def is_true(claim):
    """Whether what a claim says is so, by the tests' own searches."""
    tables = lot_of(claim[1])
    if claim[0] == "words":
        return len(searched_words(tables)) == claim[2]
    if claim[0] in ("alike", "parted"):
        return alike_by_trying(tables, lot_of(claim[2])) == (claim[0] == "alike")
    bar = bar_by_search(tables)
    told = {"plain": bar is None, "roots": bar is None or bar[0] == "own", "barred": bar is not None and bar[0] == "word",
            "rough": bar is not None}
    return told[claim[0]]


def near_views(view):
    """Views and others that are a little otherwise."""
    size = len(view)
    columns = list(zip(*view))
    found = [view, [list(row) for row in view], [*view], tuple(list(row) for row in view), view[:-1], view + view[:1], view + ((),),
             tuple(row[:-1] for row in view), tuple(row + (1,) for row in view), (view,), view[0], unit_table(size),
             unit_table(size % 4 + 1), ((0,) * size,) * size, ((1,) * size,) * size, tuple(zip(*view)), view[::-1],
             tuple(row[::-1] for row in view), tuple(tuple(10 ** 40 * one for one in row) for row in view),
             tuple(tuple(-one for one in row) for row in view)]
    for row in range(size):
        for at in range(size):
            for other in (view[row][at] + 1, view[row][at] - 1, 0, 1, 10 ** 40, True, False, None, "1", (1,), Sly()):
                line = view[row][:at] + (other,) + view[row][at + 1:]
                found.append(view[:row] + (line,) + view[row + 1:])
    for one in range(size):
        for other in range(size):
            swapped = list(columns)
            swapped[one], swapped[other] = swapped[other], swapped[one]
            found.append(tuple(zip(*swapped)))
            twice = list(columns)
            twice[one] = twice[other]
            found.append(tuple(zip(*twice)))
            swapped[one] = tuple(a + b for a, b in zip(columns[one], columns[other]))
            found.append(tuple(zip(*swapped)))
    return found


def near_words(word, many):
    """Words and others that are a little otherwise."""
    found = [word, list(word), word + (0,), (0,) + word, word[1:], word[:-1], word[::-1], (), (many,), (-1,), word + (many,), (True,),
             (False,), word + (False,), (None,), ("0",), ((0,),), (Sly(),), (10 ** 40,), None, 0, True, "", "0", word * 2, word * 41,
             (0,) * 40, (0,) * 41, (many - 1,) * 40, (many - 1,) * 41, word + (0,) * (40 - len(word)), word + (0,) * (41 - len(word)),
             Sly(), {}, [()]]
    for at in range(len(word)):
        for other in range(many):
            found.append(word[:at] + (other,) + word[at + 1:])
        found.append(word[:at] + word[at + 1:])
    return found


def near_sizes(sizes):
    found = [sizes, list(sizes), sizes[::-1], sizes + (0,), (0,) + sizes, sizes + (1,), sizes[:-1], sizes + (-1, 1), (), (sum(sizes),),
             (1,) * sum(sizes), (1,) * (sum(sizes) + 1), (sum(sizes) - 1, 1), (1, sum(sizes) - 1), (sum(sizes) + 1,), sum(sizes), None,
             (None,), ("1",), (Sly(),), Sly(), (-1, sum(sizes) + 1), (sum(sizes) + 1, -1), (10 ** 40,), ((sum(sizes),),)]
    for at in range(len(sizes)):
        for other in (True, sizes[at] + 1, sizes[at] - 1, str(sizes[at]), None):
            found.append(sizes[:at] + (other,) + sizes[at + 1:])
    return found


def near(claim, certificate):
    """Certificates for a claim that are a little otherwise."""
    many = len(lot_of(claim[1]))
    if claim[0] in ("plain", "alike"):
        return near_views(certificate)
    if claim[0] == "roots":
        sizes, view = certificate
        return ([(other, view) for other in near_sizes(sizes)] + [(sizes, other) for other in near_views(view)]
                + [[sizes, view], (view, sizes), (sizes,), (view,), (sizes, view, ()), sizes, view, (sizes, sizes), (view, view)])
    if claim[0] == "barred":
        i, j, word = certificate
        return ([(i, j, other) for other in near_words(word, many)] + [[i, j, word], (j, i, word), (i, j), (i, j, word, ()), (i, i, word),
                (j, j, word), (i, many, word), (-1, j, word), (i - many, j, word), (i, j - many, word), (False, j, word), (i, True, word),
                (False, True, word), ("0", j, word), (i, None, word), (i, j, *word), (i, (j, word)), (word, i, j), ("word", i, j, word),
                (Sly(), j, word), (i, Sly(), word), (i, 10 ** 40, word)]
                + [(one, other, word) for one in range(many) for other in range(many)])
    if claim[0] == "rough":
        return list(range(-4, 5)) + [True, False, None, "0", (0,), [0], (certificate,), 10 ** 40, Sly(), ("own", certificate), ()]
    if claim[0] == "words":
        return near_choices(certificate, many)
    return near_words(certificate, many)


def near_choices(chosen, many):
    """Tuples of words that are a little otherwise."""
    found = [chosen, list(chosen), chosen[::-1], chosen + ((),), chosen + (chosen[-1],), chosen + (chosen[-1] + (0,),), (), ((),), None,
             chosen + (None,), chosen[1:] + chosen[:1], (chosen,), [()], Sly(), (Sly(),) * len(chosen), chosen[0]]
    for at in range(len(chosen)):
        found.append(chosen[:at] + chosen[at + 1:])
        found.append(chosen[:at] + (chosen[at - 1],) + chosen[at + 1:])
        for other in near_words(chosen[at], many):
            found.append(chosen[:at] + (other,) + chosen[at + 1:])
    return found


def near_claims(claim):
    """Claims that are a little otherwise, and such as are none."""
    word, text, rest = claim[0], claim[1], claim[2:]
    found = [(other, text) + rest for other in list(SHOWING) + ["", "Plain", "word", "own", None, 0, True, ("plain",), b"plain", Sly()]]
    found += [(word, other) + rest for other in ("", "lot", text + "\n", "\n" + text, text + " ", " " + text, text.replace("\n", " / "),
              text.replace("table", "tables"), text.replace("\n", "\n\n", 1), text.replace("lot ", "lot 0"), None, 0, True, lot_of(text),
              Lot.read(text), [text], (text,), text.encode(), Sly())]
    found += [(word,), (word, text) + rest + (text,), (word, text) + rest + (None,), (text, word) + rest, list(claim), (claim,), word, text,
              (), (text,), (word, text), (word, text, text), (word, text, 1), claim + (1,), {word: text}]
    if rest:
        found += [(word, text, other) for other in (None, "", True, 0, -1, 1, 2, 3, 4, 5, 17, "1", [rest[0]], (rest[0],), 10 ** 40, Sly())]
    return found
