"""Point 36: the texts of nets."""

import itertools
import re
import unittest

from tests.helpers import Draws, FoldCase, drawn_net
from unseenfolds.errors import BadNetText
from unseenfolds.nets import Net
from unseenfolds.nettexts import read_net, write_net


def first_bad_line(text):
    """The number of the first bad line by point 36, or None."""
    for number, line in enumerate(text.split("\n"), start=1):
        if number == 1:
            if not re.fullmatch("[1-9][0-9]{0,23}", line):
                return 1
            width = int(line)
        else:
            told = re.fullmatch("(0|[1-9][0-9]{0,23}) (0|[1-9][0-9]{0,23})", line)
            if told is None or max(int(told[1]), int(told[2])) > width + number - 3:
                return number
    return None


class WritingTest(FoldCase):
    def test_lines(self):
        self.assertEqual(write_net(Net(3, [(0, 1), (3, 2), (3, 3), (4, 5)])), "3\n0 1\n3 2\n3 3\n4 5")
        self.assertEqual(write_net(Net(2, [(1, 1)])), "2\n1 1")
        self.assertEqual(write_net(Net(12)), "12")

    def test_reading_gives_the_net_again(self):
        draws = Draws(3)
        for _ in range(60):
            net = drawn_net(draws, 1 + draws.below(14), draws.below(30))
            again = read_net(write_net(net))
            self.assertEqual([again.width, again.pairs()], [net.width, net.pairs()])
            self.assertIsInstance(again, Net)

    def test_a_large_net(self):
        net = Net(400, [(j, 399 + j) for j in range(700)])
        self.assertEqual(read_net(write_net(net)).pairs(), net.pairs())


class ReadingTest(FoldCase):
    def test_texts(self):
        self.assertEqual(read_net("1").pairs(), [])
        self.assertEqual(read_net("1\n0 0\n1 0\n2 2").pairs(), [(0, 0), (1, 0), (2, 2)])
        self.assertEqual(read_net("2\n1 1").width, 2)

    def test_the_example(self):
        self.assert_raises_like(BadNetText(3), read_net, "2\n0 1\n3 0")

    def test_bad_first_lines(self):
        for text in ("", "\n", "0", "00", "01", "-1", "+1", "1 ", " 1", "1 1", "x", "1.0", "1_0", "1x",
                     "0x1", "one", "\n1", "0\n0 0", "-1\n9", "2 0\n0 1"):
            self.assert_raises_like(BadNetText(1), read_net, text)

    def test_bad_later_lines(self):
        for line in ("", " ", "0", "0 ", " 0", "0  1", "0 1 ", " 0 1", "0 1 0", "0,1", "00 1", "0 01", "-0 1", "-1 0",
                     "0 -1", "0 +1", "0 2", "2 0", "2 2", "x 0", "0 x", "0\t1", "0 1.", "99999999999999999999 0"):
            self.assert_raises_like(BadNetText(2), read_net, "2\n" + line)
            self.assert_raises_like(BadNetText(2), read_net, "2\n" + line + "\n0 1")
        for line in ("3 0", "0 3", "-1 0", "", "1"):
            self.assert_raises_like(BadNetText(3), read_net, "2\n1 0\n" + line)
            self.assert_raises_like(BadNetText(3), read_net, "2\n1 0\n" + line + "\n" + line)

    def test_a_line_feed_at_the_end(self):
        self.assert_raises_like(BadNetText(2), read_net, "2\n")
        self.assert_raises_like(BadNetText(3), read_net, "2\n0 1\n")
        self.assert_raises_like(BadNetText(1), read_net, "\n")

    def test_integers_of_24_and_of_25_digits(self):
        wide = int("9" * 24)
        self.assertEqual(read_net("9" * 24).width, wide)
        net = read_net("9" * 24 + f"\n{wide - 1} 0\n" + "1" * 24 + " 0")
        self.assertEqual(net.pairs(), [(wide - 1, 0), (int("1" * 24), 0)])
        self.assert_raises_like(BadNetText(1), read_net, "1" + "0" * 24)
        # This number, of 25 digits, would be the node before.
        self.assert_raises_like(BadNetText(3), read_net, "9" * 24 + "\n0 1\n1" + "0" * 24 + " 0")
        self.assert_raises_like(BadNetText(2), read_net, "9" * 24 + "\n0 1" + "0" * 24)
        self.assert_raises_like(BadNetText(2), read_net, "9" * 24 + "\n0 " + "0" * 25)

    def test_all_short_texts(self):
        for size in range(6):
            for signs in itertools.product("01 2\n-", repeat=size):
                text = "".join(signs)
                line = first_bad_line(text)
                if line is None:
                    self.assertEqual(write_net(read_net(text)), text)
                else:
                    self.assert_raises_like(BadNetText(line), read_net, text)

    def test_changed_texts(self):
        text = "3\n0 1\n3 2\n3 3\n4 5\n0 6\n7 7"
        self.assertIsNone(first_bad_line(text))
        for place in range(len(text)):
            for sign in ("", " ", "\n", "0", "3", "7", "8", "-", "a"):
                changed = text[:place] + sign + text[place + 1:]
                line = first_bad_line(changed)
                if line is None:
                    self.assertEqual(write_net(read_net(changed)), changed)
                else:
                    self.assert_raises_like(BadNetText(line), read_net, changed)


if __name__ == "__main__":
    unittest.main()
