"""Points 24 and 25 and the section folio/shaping.py of the interface."""

import itertools
import random
import time
import unittest

from folio.fonts import Font
from folio.shaping import glyphs_of, shape


def font(ligatures=()):
    return Font(line=10, space=10, stretch=10, shrink=5, figure=10, other=10, ligatures=ligatures)


def all_glyphs(ligatures, letters, known):
    """All glyphs that stand for these letters together."""
    if letters not in known:
        found = {ord(letters)} if len(letters) == 1 else set()
        for cut in range(1, len(letters)):
            before = all_glyphs(ligatures, letters[:cut], known)
            behind = all_glyphs(ligatures, letters[cut:], known)
            found |= {glyph for left, right, glyph in ligatures if left in before and right in behind}
        known[letters] = found
    return known[letters]


def all_shapes(ligatures, letters, known):
    """All lists of parts that the letters can be cut into."""
    if not letters:
        return [[]]
    found = []
    for start in range(len(letters)):
        part = letters[start:]
        for glyph in all_glyphs(ligatures, part, known):
            found += [parts + [(part, glyph)] for parts in all_shapes(ligatures, letters[:start], known)]
    return found


def by_listing(ligatures, letters):
    """The parts with their glyphs, found among all that there are."""
    def order(parts):
        return len(parts), [(len(part), glyph) for part, glyph in reversed(parts)]
    return min(all_shapes(ligatures, letters, {}), key=order)


class ShapingTest(unittest.TestCase):
    def assert_shape(self, ligatures, letters, expected):
        with self.subTest(ligatures=ligatures, letters=letters):
            self.assertEqual(shape(font(ligatures), letters), expected)
            self.assertEqual(glyphs_of(font(ligatures), letters), tuple(glyph for _, glyph in expected))

    def test_the_examples(self):
        ligatures = [(97, 97, 200), (200, 98, 201), (97, 98, 202)]
        self.assert_shape(ligatures, "caabd", [("c", 99), ("aab", 201), ("d", 100)])
        self.assert_shape(ligatures, "aaa", [("aa", 200), ("a", 97)])
        self.assert_shape([(97, 97, 200)], "baa", [("b", 98), ("aa", 200)])

    def test_kinds_of_values(self):
        made = shape(font([(97, 97, 200)]), "baa")
        self.assertIs(type(made), list)
        self.assertEqual({type(part) for part in made}, {tuple})
        self.assertIs(type(glyphs_of(font(), "ab")), tuple)

    def test_the_empty_text(self):
        self.assert_shape([], "", [])
        self.assert_shape([(97, 97, 200)], "", [])

    def test_no_ligatures(self):
        letters = "aB0-~ !\\"
        self.assert_shape([], letters, [(letter, ord(letter)) for letter in letters])

    def test_ligatures_that_join_what_was_joined(self):
        ligatures = [(97, 98, 200), (200, 99, 201), (201, 200, 202)]
        self.assert_shape(ligatures, "ab", [("ab", 200)])
        self.assert_shape(ligatures, "abc", [("abc", 201)])
        self.assert_shape(ligatures, "abcab", [("abcab", 202)])
        self.assert_shape([(97, 200, 201), (98, 99, 200)], "abc", [("abc", 201)])
        self.assert_shape([(200, 200, 201), (97, 98, 200)], "abab", [("abab", 201)])

    def test_the_order_of_ligatures_does_not_matter(self):
        for ligatures in itertools.permutations([(97, 98, 200), (200, 99, 201), (201, 200, 202)]):
            self.assert_shape(list(ligatures), "abcab", [("abcab", 202)])

    def test_glyphs_that_are_numbers_of_characters(self):
        self.assert_shape([(97, 97, 97)], "aaaa", [("aaaa", 97)])
        self.assert_shape([(97, 97, 98), (98, 98, 99)], "aaaa", [("aaaa", 99)])
        self.assert_shape([(97, 97, 98), (98, 98, 99)], "aab", [("aab", 99)])
        self.assert_shape([(97, 98, 97)], "abbb", [("abbb", 97)])

    def test_the_glyph_of_another_ligature(self):
        ligatures = [(97, 98, 200), (99, 100, 200), (200, 200, 201)]
        self.assert_shape(ligatures, "abcd", [("abcd", 201)])
        self.assert_shape(ligatures, "cdab", [("cdab", 201)])

    def test_a_glyph_of_no_characters(self):
        self.assert_shape([(200, 97, 201), (97, 200, 201)], "aaa", [("a", 97)] * 3)

    def test_the_fewest_parts(self):
        # The first pair that could be joined is left alone, as otherwise three parts remain.
        self.assert_shape([(97, 98, 200), (98, 99, 201), (201, 100, 202)], "abcd", [("a", 97), ("bcd", 202)])
        self.assert_shape([(97, 98, 200), (200, 99, 201), (98, 99, 202)], "abcd", [("abc", 201), ("d", 100)])
        self.assert_shape([(98, 99, 200)], "abcd", [("a", 97), ("bc", 200), ("d", 100)])

    def test_the_last_part_has_the_fewest_letters(self):
        ligatures = [(97, 98, 200), (98, 99, 201)]
        self.assert_shape(ligatures, "abc", [("ab", 200), ("c", 99)])
        self.assert_shape([(97, 97, 200)], "aaaaa", [("aa", 200), ("aa", 200), ("a", 97)])
        longer = [(97, 97, 200), (200, 97, 201)]
        self.assert_shape(longer, "aaaa", [("aaa", 201), ("a", 97)])
        self.assert_shape(longer, "aaaaa", [("aaa", 201), ("aa", 200)])

    def test_the_last_part_with_the_least_glyph(self):
        for ligatures in itertools.permutations([(97, 98, 201), (97, 98, 200), (97, 98, 202)]):
            self.assert_shape(list(ligatures), "ab", [("ab", 200)])
            self.assert_shape(list(ligatures), "abab", [("ab", 200), ("ab", 200)])

    def test_a_greater_glyph_can_be_needed(self):
        self.assert_shape([(97, 98, 200), (97, 98, 201), (201, 99, 300)], "abc", [("abc", 300)])

    def test_fewer_letters_come_before_a_least_glyph(self):
        self.assert_shape([(97, 98, 300), (98, 99, 1)], "abc", [("ab", 300), ("c", 99)])

    def test_the_part_before_the_last_one(self):
        ligatures = [(97, 97, 200), (97, 97, 199), (200, 97, 201)]
        self.assert_shape(ligatures, "aaaaaa", [("aaa", 201), ("aaa", 201)])
        self.assert_shape(ligatures, "aaaaabb", [("aaa", 201), ("aa", 199), ("b", 98), ("b", 98)])
        self.assert_shape([(97, 98, 200), (98, 99, 201)], "abcd", [("ab", 200), ("c", 99), ("d", 100)])

    def test_all_short_texts(self):
        numbers = random.Random(7)
        fonts = [[(97, 97, 97)], [(97, 98, 200), (98, 97, 201), (200, 201, 97)], [(97, 97, 98), (98, 97, 99), (98, 98, 97)]]
        for _ in range(30):
            glyphs = [97, 98, 97, 98, 200, 201, 202, 199, 99]
            fonts.append([tuple(numbers.choice(glyphs) for _ in range(3)) for _ in range(numbers.randint(1, 8))])
        for ligatures in fonts:
            for length in range(6):
                for letters in itertools.product("ab", repeat=length):
                    self.assert_shape(ligatures, "".join(letters), by_listing(ligatures, "".join(letters)))

    def test_longer_texts(self):
        numbers = random.Random(8)
        for _ in range(150):
            glyphs = [97, 98, 99, 97, 98, 99, 200, 201, 202, 203]
            ligatures = [tuple(numbers.choice(glyphs) for _ in range(3)) for _ in range(numbers.randint(3, 9))]
            letters = "".join(numbers.choice("abc") for _ in range(numbers.randint(6, 8)))
            self.assert_shape(ligatures, letters, by_listing(ligatures, letters))

    def test_600_letters(self):
        every = [(97, 97, 97)] + [(97, 97, 200 + more) for more in range(19)]
        pairs = [(97, 97, 200), (200, 200, 201), (201, 201, 202), (202, 202, 203)]
        chain = [(97, 97, 200)] + [(199 + more, 97, 200 + more) for more in range(1, 20)]
        for ligatures in ([], [(97, 97, 97)], every, pairs, chain):
            begin = time.process_time()
            parts = shape(font(ligatures), "a" * 600)
            self.assertLess(time.process_time() - begin, 5)
            self.assertEqual("".join(part for part, _ in parts), "a" * 600)
        self.assertEqual(shape(font([(97, 97, 97)]), "a" * 600), [("a" * 600, 97)])
        self.assertEqual(shape(font(pairs), "a" * 600)[-2:], [("a" * 16, 203), ("a" * 8, 202)])
        self.assertEqual(len(shape(font(chain), "a" * 600)), 29)
        self.assertEqual(shape(font([]), "ab" * 300), [("a", 97), ("b", 98)] * 300)

    def test_the_font_is_not_changed(self):
        made = font([(97, 97, 200)])
        first = shape(made, "aab")
        first.append(None)
        self.assertEqual(shape(made, "aab"), [("aa", 200), ("b", 98)])
        self.assertEqual(made.ligatures, ((97, 97, 200),))


if __name__ == "__main__":
    unittest.main()
