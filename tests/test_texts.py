import itertools
import unittest

from beatswitch.errors import NoText
from beatswitch.tables import is_table
from beatswitch.texts import read, shown
from samples import GREATEST

SIGNS = [chr(code) for code in range(32, 127) if chr(code) != "\x25"] + ["\t", "\n"]


def tables():
    told = [((1, 0), (0, 3)), ((GREATEST, 0), (9, 10)), ((GREATEST,) * 6,) * 6]
    for n in range(2, 7):
        told.append(((0,) * n,) * n)
        told.append(tuple(tuple(10 ** (i + j) - i for j in range(n)) for i in range(n)))
    return told


class Shown(unittest.TestCase):
    def test_text(self):
        self.assertEqual(shown(((1, 0), (0, 3))), "1 0 / 0 3")
        self.assertEqual(shown(((0, 0, 0),) * 3), "0 0 0 / 0 0 0 / 0 0 0")
        self.assertEqual(shown(((10 ** 18, 20), (300, 7))), "1000000000000000000 20 / 300 7")

    def test_six_lines(self):
        self.assertEqual(shown(((1, 2, 3, 4, 5, 6),) * 6), " / ".join(["1 2 3 4 5 6"] * 6))


class Read(unittest.TestCase):
    def assert_no_text(self, text):
        with self.assertRaises(NoText, msg=text[:80]) as held:
            read(text)
        self.assertEqual(held.exception.text, text)

    def test_table(self):
        self.assertEqual(read("1 0 / 0 3"), ((1, 0), (0, 3)))
        self.assertEqual(read("1000000000000000000 20 / 300 7"), ((10 ** 18, 20), (300, 7)))

    def test_read_again(self):
        for table in tables():
            self.assertEqual(read(shown(table)), table)
            self.assertIs(is_table(read(shown(table))), True)

    def test_zero_ahead(self):
        for word in ("00", "01", "007", "0" * 5000, "0" + str(GREATEST)):
            self.assert_no_text(f"{word} 0 / 0 3")
            self.assert_no_text(f"1 0 / 0 {word}")

    def test_too_great_counts(self):
        words = [str(GREATEST + 1), "9" * 19, "1" + "0" * 19, "9" * 60]
        words += ["9" * 4300, "9" * 4301, "1" * 5000, "1" + "0" * 5990]
        for word in words:
            self.assert_no_text(word)
            self.assert_no_text(f"{word} 0 / 0 3")
            self.assert_no_text(f"1 0 / 0 {word}")

    def test_words_that_are_no_counts(self):
        words = [
            "", "-1", "-0", "+1", "1_0", "_1", "1.0", "1e3", "0x1", "a", "/", "1/", ",", "None",
            "True", "\u00b2", "\u0663", "\uff11", "1\u00a0"]
        for word in words:
            self.assert_no_text(word)
            self.assert_no_text(f"{word} 0 / 0 3")
            self.assert_no_text(f"1 {word} / 0 3")
            self.assert_no_text(f"1 0 / 0 {word}")

    def test_blanks(self):
        for text in (
                " ", "  ", " 1 0 / 0 3", "1 0 / 0 3 ", "1  0 / 0 3", "1 0  / 0 3", "1 0 /  0 3",
                "1\t0 / 0 3", "1 0 / 0 3\t", "1 0\t/ 0 3", "1 0 / 0 3\n", "\n1 0 / 0 3",
                "1 0\n0 3", "1 0 /\n0 3"):
            self.assert_no_text(text)

    def test_strokes(self):
        for text in (
                "/", " / ", "1 0/0 3", "1 0 /0 3", "1 0/ 0 3", "1 0 // 0 3", "1 0 / / 0 3",
                " / 1 0 / 0 3", "1 0 / 0 3 / ", "/ 1 0 / 0 3", "1 0 / 0 3 /", "1 0 0 3",
                "1 0 \\ 0 3"):
            self.assert_no_text(text)

    def test_shapes(self):
        for text in (
                "", "0", "1 0", "1 / 0", "1 0 / 0", "1 0 / 0 3 4", "1 0 3 / 0 3",
                "1 0 / 0 3 / 1 0", "1 0 0 / 0 3 0", "1 0 0 / 0 3 0 / 1 0 0 / 0 0 0"):
            self.assert_no_text(text)
        for n in (1, 7, 8, 40):
            self.assert_no_text(" / ".join([" ".join(["0"] * n)] * n))

    def test_six_thousand_signs(self):
        for part in ["0", "9", " ", "/", "0 ", " /", " / ", "0 / ", "a", "\t", "\n"]:
            self.assert_no_text((part * 6000)[:6000])

    def test_all_short_texts(self):
        for length in range(8):
            for signs in itertools.product("10 /", repeat=length):
                text = "".join(signs)
                try:
                    table = read(text)
                except NoText:
                    continue
                self.assertEqual(shown(table), text)

    def test_one_sign_changed(self):
        whole = "1 0 / 10 3"
        for at in range(len(whole) + 1):
            for sign in SIGNS + [""]:
                for rest in (whole[at:], whole[at + 1:]):
                    self.assert_read_is_right(whole[:at] + sign + rest)

    def assert_read_is_right(self, text):
        try:
            table = read(text)
        except NoText as refusal:
            self.assertEqual(refusal.text, text)
            return
        self.assertIs(is_table(table), True)
        self.assertEqual(shown(table), text)


if __name__ == "__main__":
    unittest.main()
