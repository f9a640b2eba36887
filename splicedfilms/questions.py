"""Questions about all films that come about by a box."""

from splicedfilms.checks import check_film, check_number, check_piece
from splicedfilms.counts import count_rest, counts_of_ends, counts_to, lengths_end, longer_counts, texts_between
from splicedfilms.searches import BOTH, FIRST_ALONE, first_of_two, first_over_bridge
from splicedfilms.states import holds_text, hopeful, lead, table_of_piece


def number(box, length):
    """Return how many films have a length."""
    check_number(length, 0)
    return counts_to(box.workings().table(), length)[length][0]


def number_rest(box, length, modulus):
    """Return the rest, by a modulus, of the number of the films that have a length."""
    check_number(length, 0)
    check_number(modulus, 1)
    return count_rest(box.workings().table(), length, modulus)


def is_endless(box):
    """Tell whether there are endless many films."""
    return lengths_end(box.workings().table()) is None


def how_many(box):
    """Return how many films there are, `None` if there are endless many."""
    told = box.workings().table()
    end = lengths_end(told)
    if end is None:
        return None
    return sum([counts[0] for counts in counts_to(told, end)])


def shortest(box):
    """Return the ascending list of the shortest films."""
    film = film_at(box, 0)
    return [] if film is None else _films_long(box, len(film))


def longest(box):
    """Return the ascending list of the longest films, `None` if there are endless many."""
    end = lengths_end(box.workings().table())
    if end is None:
        return None
    return [] if end == 0 else _films_long(box, end - 1)


def _films_long(box, length):
    told = box.workings().table()
    return texts_between(told, [0], told[2], length)


def some_have(box, piece):
    """Return the first film that has a piece, `None` if none has."""
    check_piece(piece)
    told = box.workings().table()
    return first_of_two(told, table_of_piece(piece, told[0]), BOTH)


def all_have(box, piece):
    """Return the first film that has not a piece, `None` if all have."""
    check_piece(piece)
    told = box.workings().table()
    return first_of_two(told, table_of_piece(piece, told[0]), FIRST_ALONE)


def pieces(box, length):
    """Return the ascending list of the pieces of a length that stand in some film."""
    check_number(length, 0)
    told = box.workings().table()
    hopes = hopeful(told)
    return texts_between(told, hopes, hopes, length)


def beginnings(box, length):
    """Return the ascending list of the pieces of a length with which some film begins."""
    check_number(length, 0)
    told = box.workings().table()
    return texts_between(told, [0], hopeful(told), length)


def endings(box, length):
    """Return the ascending list of the pieces of a length with which some film ends."""
    check_number(length, 0)
    told = box.workings().table()
    return texts_between(told, hopeful(told), told[2], length)


def beside(box):
    """Return the ascending list of the pieces of two pictures of the box that stand in no film."""
    pictures = box.pictures()
    standing = pieces(box, 2)
    return [one + other for one in pictures for other in pictures if one + other not in standing]


def barred(box, length):
    """Return the pieces of from one to so many pictures that stand in no film, while their lesser pieces do."""
    check_number(length, 0)
    found = []
    lesser = {piece: True for piece in pieces(box, 0)}
    for size in range(1, length + 1):
        standing = {piece: True for piece in pieces(box, size)}
        # What is behind the first picture and what is ahead of the last one have all other lesser pieces.
        wider = [piece + picture for piece in lesser for picture in box.pictures()]
        found.extend([piece for piece in wider if piece[1:] in lesser and piece not in standing])
        lesser = standing
    return found


def exchanged(box, piece, other):
    """Return the first film x + piece + y for which x + other + y does not come about, `None` if there is none."""
    check_piece(piece)
    check_piece(other)
    told = box.workings().table()
    pairs = [[(lead(told, state, piece), lead(told, state, other))] for state in range(len(told[1]))]
    return first_over_bridge(told, piece, pairs, (True, False))


def rank(box, film):
    """Return how many films are ahead of a film in their order, `None` if it does not come about."""
    check_film(film)
    told = box.workings().table()
    if not holds_text(told, film):
        return None
    counts = counts_to(told, len(film))
    ahead = sum([counts[length][0] for length in range(len(film))])
    state = 0
    for at, sign in enumerate(film):
        left = len(film) - at - 1
        ahead += sum([counts[left][after] for picture, after in zip(told[0], told[1][state]) if picture < sign])
        state = lead(told, state, sign)
    return ahead


def film_at(box, index):
    """Return the film with a rank, `None` if there are not so many."""
    check_number(index, 0)
    most = how_many(box)
    if most is not None and index >= most:
        return None
    told = box.workings().table()
    counts = [counts_of_ends(told)]
    while counts[-1][0] <= index:
        index -= counts[-1][0]
        counts.append(longer_counts(told, counts[-1]))
    return _text_at(told, counts[:-1], index)


def _text_at(told, counts, index):
    # Returns the text, of as many pictures as there are counts, that has so many ones of its length ahead.
    text = ""
    state = 0
    for numbers in reversed(counts):
        for picture, after in zip(told[0], told[1][state]):
            if numbers[after] > index:
                text += picture
                state = after
                break
            index -= numbers[after]
    return text
