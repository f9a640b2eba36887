"""Boxes whose films the tests know."""

# Boxes by which only few films come about, so that a test finds them all.
FEW = [
    ([], []),
    ([], [("a", "", "", "a")]),
    (["ab", "b"], []),
    (["ab", "cd"], [("a", "b", "c", "d")]),
    (["ab", "cd", "ab"], [("a", "b", "c", "d"), ("a", "b", "c", "d")]),
    (["abc", "cba"], [("a", "b", "b", "a"), ("c", "b", "b", "c")]),
    (["abc", "de"], [("c", "", "", "d"), ("b", "c", "d", "e"), ("c", "d", "d", "e")]),
    (["ad", "bc"], [("a", "", "", "b"), ("b", "c", "", "d"), ("ab", "c", "b", "c")]),
    (["ab", "bc", "acb"], [("a", "b", "b", "c"), ("ac", "", "ac", "b"), ("a", "cb", "", "bc")]),
    (["abcd", "e"], [("abc", "d", "", "e"), ("a", "bce", "bc", "e")]),
    (["bbbbc"], [("b", "bc", "bb", "c")]),
    (["bbbba", "baa"], [("b", "ba", "", "a")]),
    (["dadd", "bbbd"], [("d", "a", "d", "d"), ("b", "bd", "", "da"), ("bb", "d", "a", "d")]),
    (["bbd", "ddbac", "bab", "adc"], [("ba", "b", "b", "ab"), ("a", "", "b", "bd"), ("b", "a", "b", "d")]),
    (["accbc", "dadc", "abbc", "ddc"], [("a", "b", "d", "dc"), ("a", "cc", "ac", "c"), ("d", "", "", "ac")]),
    (["b", "cba", "aaab", "acbc"], [("c", "b", "aa", "a"), ("aa", "b", "", "b"), ("cb", "a", "c", "bc")]),
]
# Boxes by which endless many films come about, those of a pattern, and the fewest splices of each one.
MANY = [
    (["abc"], [("b", "c", "a", "b")], "ab+c", lambda film: len(film) - 3),
    (["a", "aa"], [("a", "", "", "a")], "a+", lambda film: (len(film) - 1) // 2),
    (["aa"], [("a", "", "", "a")], "aa+", lambda film: (len(film) - 1) // 2),
    (["ab"], [("b", "", "", "a")], "(ab)+", lambda film: len(film) // 2 - 1),
    (["ab"], [("b", "", "", "b")], "ab+", lambda film: len(film) - 2),
    (["ab", "cb"], [("b", "", "", "b"), ("a", "", "c", "b")], "[ac]b+", lambda film: len(film) - 2),
    (["b", "a"], [("a", "", "", "a"), ("a", "", "", "b"), ("b", "", "", "a")], "b|b?(a+b?)+", lambda film: len(film) - 1),
    (["aca", "ac"], [("a", "", "b", "a"), ("c", "", "", "ca")], "ac|ac+a", lambda film: film.count("c") - 1),
]
