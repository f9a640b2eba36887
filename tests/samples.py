"""Boxes whose films the tests know, and tuples that are no tables and no rules."""

from cases import WRONG_SIGNS
from splicedfilms.errors import InvalidPiece, InvalidRule

# Boxes by which only few films come about, so that a test finds them all.
FEW = [
    ([], []),
    ([], [("a", "", "", "a")]),
    (["ab", "b"], []),
    (["ab", "cd"], [("a", "b", "c", "d")]),
    (["ab", "cd", "ab"], [("a", "b", "c", "d"), ("a", "b", "c", "d")]),
    (["abc", "cba"], [("a", "b", "b", "a"), ("c", "b", "b", "c")]),
    (["abc", "de"], [("c", "", "", "d"), ("b", "c", "d", "e"), ("c", "d", "d", "e")]),
    (["ad", "bc"], [("a", "", "", "b"), ("b", "c", "", "d"), ("ab", "c", "b", "c")]),
    (["ab", "bc", "acb"], [("a", "b", "b", "c"), ("ac", "", "ac", "b"), ("a", "cb", "", "bc")]),
    (["abcd", "e"], [("abc", "d", "", "e"), ("a", "bce", "bc", "e")]),
    (["bbbbc"], [("b", "bc", "bb", "c")]),
    (["bbbba", "baa"], [("b", "ba", "", "a")]),
    (["dadd", "bbbd"], [("d", "a", "d", "d"), ("b", "bd", "", "da"), ("bb", "d", "a", "d")]),
    (["bbd", "ddbac", "bab", "adc"], [("ba", "b", "b", "ab"), ("a", "", "b", "bd"), ("b", "a", "b", "d")]),
    (["accbc", "dadc", "abbc", "ddc"], [("a", "b", "d", "dc"), ("a", "cc", "ac", "c"), ("d", "", "", "ac")]),
    (["b", "cba", "aaab", "acbc"], [("c", "b", "aa", "a"), ("aa", "b", "", "b"), ("cb", "a", "c", "bc")]),
]
# Boxes by which endless many films come about, those of a pattern, and the fewest splices of each one.
MANY = [
    (["abc"], [("b", "c", "a", "b")], "ab+c", lambda film: len(film) - 3),
    (["a", "aa"], [("a", "", "", "a")], "a+", lambda film: (len(film) - 1) // 2),
    (["aa"], [("a", "", "", "a")], "aa+", lambda film: (len(film) - 1) // 2),
    (["ab"], [("b", "", "", "a")], "(ab)+", lambda film: len(film) // 2 - 1),
    (["ab"], [("b", "", "", "b")], "ab+", lambda film: len(film) - 2),
    (["ab", "cb"], [("b", "", "", "b"), ("a", "", "c", "b")], "[ac]b+", lambda film: len(film) - 2),
    (["b", "a"], [("a", "", "", "a"), ("a", "", "", "b"), ("b", "", "", "a")], "b|b?(a+b?)+", lambda film: len(film) - 1),
    (["aca", "ac"], [("a", "", "b", "a"), ("c", "", "", "ca")], "ac|ac+a", lambda film: film.count("c") - 1),
]
# Pictures that do not ascend, or are none; no states; rows that are too long or too short; states that are not there,
# in rows and as ends; ends that do not ascend; and tuples that have not three things.
NO_TABLES = [
    ("ba", [[0, 0]], []), ("aa", [[0, 0]], [0]), ("aba", [[0, 0, 0]], []), ("acb", [[0, 0, 0]], []),
    ("a", [], []), ("", [], []), ("a", [], [0]), ("ab", [], []),
    ("a", [[]], []), ("a", [[0, 0]], []), ("", [[0]], []), ("ab", [[0, 1], [0]], []), ("ab", [[0, 0], [1, 1, 1]], [1]),
    ("a", [[1]], []), ("a", [[-1]], []), ("a", [[1], [2]], [0]), ("a", [[0], [-2]], [0]), ("ab", [[0, 10 ** 30]], []),
    ("a", [[0]], [1]), ("a", [[0]], [-1]), ("a", [[0], [0]], [0, 2]), ("a", [[0], [0]], [-1, 0]), ("", [[]], [1]),
    ("a", [[0], [0]], [1, 0]), ("a", [[0], [0]], [0, 0]), ("a", [[0], [0], [0]], [0, 2, 1]), ("", [[], []], [1, 1]),
]
NO_TABLES += [(), ("a",), ("a", [[0]]), ("a", [[0]], [], [])]
NO_TABLES += [(sign, [[0]], []) for sign in WRONG_SIGNS]
NO_TABLES += [("".join(sorted("c" + sign)), [[0, 0]], [0]) for sign in WRONG_SIGNS]
# What is wrong with tuples that are no rules: the error, its value, the tuple.
WRONG_RULES = [
    (InvalidRule, ("a", "b", "c"), ("a", "b", "c")), (InvalidRule, (), ()), (InvalidRule, ("a",) * 5, ("a",) * 5),
    (InvalidRule, ("", "b", "b", "c"), ("", "b", "b", "c")), (InvalidRule, ("a", "b", "b", ""), ("a", "b", "b", "")),
    (InvalidPiece, "A", ("A", "B", "", "c")), (InvalidPiece, "B", ("", "B", "", "c")),
    (InvalidPiece, "-", ("a", "", "-", "")), (InvalidPiece, " ", ("a", "", "", " ")),
]
