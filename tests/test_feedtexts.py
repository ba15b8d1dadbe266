"""Points 13 to 15: the parts of a feed, tokens, the one form, and reading a text."""

import itertools
import unittest

from tests.helpers import NESTED_TEXTS, SIMPLE_PARTS, FoldCase
from unseenfolds.errors import BadFeed, TooLarge
from unseenfolds.feedtexts import read_parts, tokens, write_parts

GOOD_NUMBERS = {
    "front": [(b,) for b in range(100)], "rest": [(b,) for b in range(100)], "last": [(b,) for b in range(100)],
    "but": [(b,) for b in range(100)], "each": [(k, i) for k in range(1, 10) for i in range(k)],
    "block": [(k, i) for k in range(1, 10) for i in range(k)], "same": [()], "turn": [()],
}


def wrong_place(words):
    """The number of the first token with which no text can go on, or None; what is still due lies on a stack."""
    due = ["end", "part"]
    for place, word in enumerate(words):
        state = due.pop()
        follow = {
            ("part", "same"): [], ("part", "turn"): [], ("part", "front"): [99], ("part", "each"): ["k"],
            ("part", "block"): ["k"], ("part", "both"): ["arm", "arm"], ("arm", "("): ["close", "part"],
            ("close", ";"): ["close", "part"], ("close", ")"): [], ("end", ";"): ["end", "part"],
        }.get((state, word))
        if word in ("0", "1", "2", "9"):
            if state == "k" and word != "0":
                follow = [int(word) - 1]
            elif type(state) is int and int(word) <= state:
                follow = []
        if follow is None:
            return place
        due += follow
    return None if due == ["end"] else len(words)


class TokensTest(FoldCase):
    def test_tokens(self):
        told = {
            "": [], "   ": [], "same": ["same"], " a  b ": ["a", "b"], "both(turn)(each 2 0;turn)":
            ["both", "(", "turn", ")", "(", "each", "2", "0", ";", "turn", ")"], ";;": [";", ";"], "(()": ["(", "(", ")"],
            "a\nb c": ["a\nb", "c"], "\n": ["\n"], "x;y": ["x", ";", "y"], "front-3,4": ["front-3,4"],
        }
        for text, words in told.items():
            self.assertEqual(tokens(text), words)

    def test_each_list_is_new(self):
        tokens("same; turn").clear()
        self.assertEqual(tokens("same; turn"), ["same", ";", "turn"])

    def test_long_texts(self):
        self.assertEqual(tokens("same;" * 4000), ["same", ";"] * 4000)


class ReadTest(FoldCase):
    def test_all_single_parts(self):
        for word, rows in GOOD_NUMBERS.items():
            for row in rows:
                part = (word,) + row
                self.assertEqual(read_parts(" ".join(str(entry) for entry in part)), (part,))

    def test_parts_in_a_row(self):
        self.assertEqual(read_parts("turn;same ;  front   3"), (("turn",), ("same",), ("front", 3)))

    def test_arms(self):
        told = (("front", 3), ("both", (("turn",),), (("each", 2, 0), ("turn",))))
        self.assertEqual(read_parts("front 3; both (turn) (each 2 0; turn)"), told)
        self.assertEqual(read_parts("front 3;both(turn)(each 2 0;turn)"), told)
        self.assertEqual(read_parts("  front 3 ; both ( turn )( each 2 0 ; turn ) "), told)

    def test_only_a_blank_is_a_space(self):
        self.assert_raises_like(BadFeed(0), read_parts, "same\n")
        self.assert_raises_like(BadFeed(0), read_parts, "front\n3")
        self.assert_raises_like(BadFeed(1), read_parts, "front 3\n")
        self.assert_raises_like(BadFeed(2), read_parts, "turn; \nsame")

    def test_texts_that_end_too_early(self):
        told = {
            "": 0, "  ": 0, "same;": 2, "front": 1, "each": 1, "each 2": 2, "both": 1, "both (": 2, "both (same": 3,
            "both (same)": 4, "both (same) (": 5, "both (same) (turn": 6, "both (same;": 4, "turn; block 3": 4,
        }
        for text, place in told.items():
            self.assert_raises_like(BadFeed(place), read_parts, text)

    def test_the_first_wrong_token(self):
        told = {
            "x": 0, "Same": 0, "(same)": 0, ")": 0, ";": 0, "same same": 1, "same )": 1, "same (turn)": 1, "same 1": 1,
            "turn;; same": 2, "front x": 1, "front (": 1, "front 3 4": 2, "front 100": 1, "front 00": 1, "front 03": 1,
            "front -1": 1, "front +1": 1, "front 1.": 1, "front 1_0": 1, "each 0 0": 1, "each 10 0": 1, "each 2 2": 2,
            "each 9 9": 2, "each 3 03": 2, "each 1 1": 2, "block 9 10": 2, "block 5 5": 2, "both same": 1,
            "both (same) turn": 4, "both () (same)": 2, "both (same;) (turn)": 4, "both (same)) (turn)": 4,
            "both (same) (turn))": 7, "both (same) (turn) (turn)": 7, "both (same) (front)": 6, "3": 0, "x y z": 0,
            "turn; each 3 3": 4, "both ((same)) (same)": 2, "both both": 1, "same; both; turn": 3,
        }
        for text, place in told.items():
            self.assert_raises_like(BadFeed(place), read_parts, text)

    def test_all_short_rows_of_some_tokens(self):
        words = ("same", "front", "each", "both", "(", ")", ";", "0", "2")
        for many in range(6):
            for row in itertools.product(words, repeat=many):
                place = wrong_place(row)
                if place is None:
                    self.assertEqual(tokens(write_parts(read_parts(" ".join(row)))), list(row))
                else:
                    self.assert_raises_like(BadFeed(place), read_parts, " ".join(row))

    def test_rows_that_begin_with_an_arm(self):
        words = ("turn", "block", "both", "(", ")", ";", "1", "9", "09")
        for row in itertools.product(words, repeat=4):
            row = ("both", "(", "same", ")", "(") + row
            place = wrong_place(row)
            if place is None:
                self.assertEqual(tokens(write_parts(read_parts(" ".join(row)))), list(row))
            else:
                self.assert_raises_like(BadFeed(place), read_parts, " ".join(row))


class DepthTest(FoldCase):
    def nested(self, depth, inner="same"):
        text = inner
        for _ in range(depth):
            text = f"both ({text}) (turn)"
        return text

    def test_six_open_arms(self):
        parts = read_parts(self.nested(6))
        for _ in range(6):
            self.assertEqual(parts[0][0], "both")
            self.assertEqual(parts[0][2], (("turn",),))
            parts = parts[0][1]
        self.assertEqual(parts, (("same",),))

    def test_the_seventh_open_arm(self):
        self.assert_raises_like(TooLarge("depth"), read_parts, self.nested(7))
        self.assert_raises_like(TooLarge("depth"), read_parts, "both (" * 7)
        self.assert_raises_like(TooLarge("depth"), read_parts, "both (" * 7 + "x ) ) (")
        self.assert_raises_like(TooLarge("depth"), read_parts, "both (" * 3000)

    def test_what_is_wrong_before_it_comes_first(self):
        self.assert_raises_like(BadFeed(13), read_parts, "both (" * 6 + "both )")
        self.assert_raises_like(BadFeed(0), read_parts, "x " + "both (" * 7)
        self.assert_raises_like(BadFeed(13), read_parts, "both (" * 6 + "both")

    def test_closed_arms_are_not_counted(self):
        text = "; ".join(["both (same) (turn)"] * 20)
        self.assertEqual(len(read_parts(text)), 20)
        right = "same"
        for _ in range(6):
            right = f"both (turn) ({right})"
        self.assertEqual(write_parts(read_parts(right)), right)
        self.assert_raises_like(TooLarge("depth"), read_parts, f"both (turn) ({right})")

    def test_no_other_bound_is_checked(self):
        self.assertEqual(read_parts("; ".join(["turn"] * 60)), (("turn",),) * 60)
        self.assertEqual(len(read_parts("; ".join(["both (same) (same)"] * 30))), 30)


class WriteTest(FoldCase):
    def test_the_one_form(self):
        parts = (("front", 3), ("both", (("turn",),), (("each", 2, 0), ("turn",))))
        self.assertEqual(write_parts(parts), "front 3; both (turn) (each 2 0; turn)")
        self.assertEqual(write_parts((("same",),)), "same")

    def test_writing_and_reading(self):
        for pair in itertools.product(SIMPLE_PARTS, repeat=2):
            self.assertEqual(read_parts(write_parts(pair)), pair)
            both = (("both", pair[:1], pair), pair[1])
            self.assertEqual(read_parts(write_parts(both)), both)
        for text in NESTED_TEXTS:
            self.assertEqual(write_parts(read_parts(text)), text)
            self.assertEqual(write_parts(read_parts(text.replace(" (", "(").replace("; ", " ;"))), text)


if __name__ == "__main__":
    unittest.main()
