"""The words of the document done slowly: what the tests compare the program with."""

import itertools
import random
import re


def sites(left, right, film):
    """Return all cuts between `left` and `right`."""
    return [cut for cut in range(len(film) + 1) if film[:cut].endswith(left) and film[cut:].startswith(right)]


def all_splices(rules, film, other):
    """Return all splices of two films."""
    return [
        film[:cut] + other[place:]
        for front, behind, ahead, back in rules
        for cut in sites(front, behind, film)
        for place in sites(ahead, back, other)
    ]


def fewest_by_rounds(strips, rules, most, cap=None):
    """Return {film: fewest splices} of all films of at most so many splices, and the number of rounds that are whole.

    A round is not begun if there are more films than the cap.
    """
    fewest = {strip: 0 for strip in strips}
    rounds = [sorted(fewest)]
    while len(rounds) <= most and (cap is None or len(fewest) <= cap):
        fresh = set()
        for at in range(len(rounds)):
            for film, other in itertools.product(rounds[at], rounds[-1 - at]):
                fresh.update(all_splices(rules, film, other))
        fresh.difference_update(fewest)
        fewest.update({film: len(rounds) for film in fresh})
        rounds.append(sorted(fresh))
    return fewest, len(rounds) - 1


def all_films(strips, rules):
    """Return {film: fewest splices} of a box by which only few films come about."""
    most = 1
    while True:
        fewest, _ = fewest_by_rounds(strips, rules, most)
        if most > 2 * max(fewest.values(), default=0):
            return fewest
        most += 1


def film_told(strips, rules, told):
    """Return the film of a tree, `None` if it tells none."""
    if told[0] == "strip":
        return strips[told[1]] if 0 <= told[1] < len(strips) else None
    _, index, cut, place, one, two = told
    film, other = film_told(strips, rules, one), film_told(strips, rules, two)
    if film is None or other is None or not 0 <= index < len(rules):
        return None
    front, behind, ahead, back = rules[index]
    if cut not in sites(front, behind, film) or place not in sites(ahead, back, other):
        return None
    return film[:cut] + other[place:]


def count_splices(told):
    """Return the number of splices of a tree."""
    return 0 if told[0] == "strip" else 1 + count_splices(told[4]) + count_splices(told[5])


def is_told(told, text):
    """Tell whether a table holds a text."""
    pictures, rows, ends = told
    state = 0
    for picture in text:
        if picture not in pictures:
            return False
        state = rows[state][pictures.index(picture)]
    return state in ends


def table_by_signs(pictures, sign, is_held):
    """Return the least table of some texts; two texts lead to one state exactly if their signs are equal."""
    states, firsts, rows = {sign(""): 0}, [""], []
    for text in firsts:
        rows.append([])
        for picture in pictures:
            shown = sign(text + picture)
            if shown not in states:
                states[shown] = len(firsts)
                firsts.append(text + picture)
            rows[-1].append(states[shown])
    return pictures, rows, [at for at, text in enumerate(firsts) if is_held(text)]


def table_of_films(pictures, films):
    """Return the least table of finitely many films."""
    return table_by_signs(
        pictures, lambda text: frozenset(film[len(text):] for film in films if film.startswith(text)),
        lambda text: text in films)


def pieces_of(film):
    """Return all pieces of a film, the empty one too."""
    return {film[low:high] for low in range(len(film) + 1) for high in range(low, len(film) + 1)}


def in_order(films):
    """Return films in their order."""
    return sorted(films, key=lambda film: (len(film), film))


def texts(pictures, length):
    """Return all films of at most a length."""
    return ["".join(row) for size in range(1, length + 1) for row in itertools.product(pictures, repeat=size)]


def boxes_by_chance(seed, number):
    """Return strips and rules of small boxes, most of whose rules fit their strips; always the same ones."""
    chance = random.Random(seed)
    boxes = []
    for _ in range(number):
        pictures = "abc"[:chance.randint(1, 3)]
        strips = [_text(chance, pictures, 1, 5) for _ in range(chance.randint(1, 4))]
        rules = [_rule(chance, pictures, strips) for _ in range(chance.randint(0, 3))]
        boxes.append((strips, rules))
    return boxes


def _text(chance, pictures, least, most):
    return "".join(chance.choice(pictures) for _ in range(chance.randint(least, most)))


def _rule(chance, pictures, strips):
    if chance.random() < 0.2:
        return tuple(_text(chance, pictures, least, 2) for least in (1, 0, 0, 1))
    one, two = chance.choice(strips), chance.choice(strips)
    cut, place = chance.randint(1, len(one)), chance.randint(0, len(two) - 1)
    return (
        one[max(0, cut - chance.randint(1, 2)):cut],
        one[cut:cut + chance.randint(0, 2)],
        two[max(0, place - chance.randint(0, 2)):place],
        two[place:place + chance.randint(1, 2)],
    )


def table_by_chance(chance, pictures, most):
    """Return some table."""
    many = chance.randint(1, most)
    rows = [[chance.randrange(many) for _ in pictures] for _ in range(many)]
    return pictures, rows, [state for state in range(many) if chance.random() < 0.4]


def is_text_of_box(text):
    """Tell whether some box has a text."""
    film, piece = "[a-z]+", "[a-z]*"
    rule = f"; {film}\\|{piece} {piece}\\|{film}"
    return re.fullmatch(f"({film}(, {film})*)?({rule})*", text) is not None


def tree_told(text):
    """Return the tree with a text, `None` if none has it."""
    found = _tree_at(text, 0)
    return None if found is None or found[1] != len(text) else found[0]


def _tree_at(text, at):
    number = "(0|[1-9][0-9]{0,3})"
    strip = re.compile(f"strip {number}(?![0-9])").match(text, at)
    if strip:
        return ("strip", int(strip[1])), strip.end()
    head = re.compile(f"rule {number} {number} {number} \\(").match(text, at)
    one = head and _tree_at(text, head.end())
    other = one and text.startswith(") (", one[1]) and _tree_at(text, one[1] + 3)
    if not other or not text.startswith(")", other[1]):
        return None
    return ("splice", int(head[1]), int(head[2]), int(head[3]), one[0], other[0]), other[1] + 1


def changed_texts(text, signs):
    """Return the texts with one sign taken out, exchanged or put in."""
    found = {text[:at] + text[at + 1:] for at in range(len(text))}
    for sign in signs:
        found.update(text[:at] + sign + text[at + 1:] for at in range(len(text)))
        found.update(text[:at] + sign + text[at:] for at in range(len(text) + 1))
    return sorted(found - {text})
