import random
import unittest

from beatswitch.clearing import latest
from beatswitch.covers import greatest
from beatswitch.desk import Desk
from beatswitch.errors import NoCall, NoLine, NoRow, NoText, TooMany
from beatswitch.halls import Hall
from beatswitch.keeping import Keeper
from beatswitch.parting import parted
from beatswitch.tables import is_table
from beatswitch.texts import shown
from beatswitch.waves import wave


def said(desk, *rows):
    return [desk.say(row) for row in rows]


def state(desk):
    """What a desk tells of all that it has, without a change."""
    n = len(desk.say("show").split(" / "))
    cells = [(i, j) for i in range(n) for j in range(n)]
    told = said(desk, "show", "wave 0", "calls")
    return told + [desk.say(f"waiting {i} {j}") for i, j in cells]


class Refusing(unittest.TestCase):
    def assert_refused(self, desk, row, refusal):
        before = state(desk)
        with self.assertRaises(refusal) as held:
            desk.say(row)
        self.assertIs(type(held.exception), refusal)
        self.assertEqual(state(desk), before)
        return held.exception


class Ordinary(unittest.TestCase):
    def test_a_new_one(self):
        desk = Desk()
        self.assertEqual(said(desk, "show", "beat", "waiting 1 1", "calls"), ["0 0 / 0 0", "none", "none", "none"])
        # Its hall has two fronts, of which each has one call, over one middle.
        self.assertEqual(said(desk, "call 0 1", "call 1 0"), ["0 0", "1 0"])
        self.assertRaises(TooMany, desk.say, "call 0 0")
        self.assertRaises(NoLine, desk.say, "call 2 0")
        self.assertRaises(NoLine, desk.say, "call 0 2")

    def test_the_keeper(self):
        desk = Desk()
        self.assertEqual(said(desk, "come 0 1", "come 0 0", "come 1 1", "come 0 1"), ["0", "1", "2", "3"])
        self.assertEqual(said(desk, "show", "waiting 0 1", "waiting 1 0"), ["1 2 / 0 1", "0 3", "none"])
        self.assertEqual(said(desk, "beat", "beat", "beat", "beat"), ["1:0 2:0", "0:1", "3:2", "none"])
        self.assertEqual(said(desk, "come 1 0", "beat"), ["4", "4:0"])

    def test_beats_with_none_one_and_several(self):
        desk = Desk()
        self.assertEqual(said(desk, "table 1 0 / 0 1", "beat", "beat"), ["ok", "0:0 1:0", "none"])
        self.assertEqual(said(desk, "come 1 0", "beat"), ["2", "2:0"])
        self.assertEqual(said(desk, "table 1 1 / 0 0", "beat", "beat"), ["ok", "0:0", "1:1"])

    def test_lines(self):
        desk = Desk()
        for n in range(2, 7):
            self.assertEqual(said(desk, "come 1 1", f"lines {n}", "waiting 1 1"), ["0", "ok", "none"])
            self.assertEqual(desk.say("show"), " / ".join([" ".join(["0"] * n)] * n))
            self.assertEqual(desk.say(f"come {n - 1} {n - 1}"), "0")
            self.assertEqual(desk.say("beat"), "0:0")
            self.assertEqual(desk.say("lines 2"), "ok")

    def test_table(self):
        desk = Desk()
        self.assertEqual(desk.say("table 1 2 0 / 0 0 0 / 3 0 1"), "ok")
        self.assertEqual(desk.say("show"), "1 2 0 / 0 0 0 / 3 0 1")
        cells = ["0 0", "0 1", "0 2", "1 0", "1 1", "1 2", "2 0", "2 1", "2 2"]
        told = ["0", "1 2", "none", "none", "none", "none", "3 4 5", "none", "6"]
        self.assertEqual(said(desk, *[f"waiting {cell}" for cell in cells]), told)
        self.assertEqual(desk.say("come 1 1"), "7")
        self.assertEqual(desk.say("table 0 0 / 0 0"), "ok")
        self.assertEqual(said(desk, "show", "come 1 1"), ["0 0 / 0 0", "0"])

    def test_a_new_keeper_has_no_beats(self):
        desk = Desk()
        for row in ("lines 2", "table 1 1 / 0 0"):
            said(desk, "beat", row)
            if row == "lines 2":
                said(desk, "come 0 0", "come 0 1")
            self.assertEqual(desk.say("beat"), "0:0")

    def test_wave(self):
        desk = Desk()
        desk.say("table 1 1 / 0 0")
        self.assertEqual(said(desk, "wave 0", "wave 1", "wave 2"), ["0 -", "1 -", "0 -"])
        self.assertEqual(said(desk, "wave 999999999", "wave 100000000"), ["1 -", "0 -"])
        desk.say("table 1 1 0 / 1 0 0 / 0 0 0")
        self.assertEqual(said(desk, "wave 0", "wave 1", "wave 2"), ["0 - -", "1 0 -", "1 0 -"])
        desk.say("lines 2")
        self.assertEqual(desk.say("wave 5"), "- -")

    def test_greatest_parted_latest(self):
        desk = Desk()
        self.assertEqual(said(desk, "greatest", "parted", "latest 1 1"), ["0", "0", "0"])
        desk.say("table 1 2 / 0 3")
        self.assertEqual(said(desk, "greatest", "parted"), ["2", "5"])
        self.assertEqual(said(desk, "latest 0 0", "latest 0 1", "latest 1 0", "latest 1 1"), ["3", "6", "0", "5"])
        desk.say("table 0 4 / 0 3")
        self.assertEqual(said(desk, "greatest", "parted"), ["1", "7"])

    def test_asking_changes_nothing(self):
        desk = Desk()
        said(desk, "table 1 2 / 0 3", "call 1 0")
        before = state(desk)
        said(desk, "wave 3", "greatest", "parted", "latest 0 1", "calls", "show")
        self.assertEqual(state(desk), before)
        self.assertEqual(desk.say("beat"), "0:0 3:0")

    def test_the_hall(self):
        desk = Desk()
        self.assertEqual(desk.say("hall 3 2 2"), "ok")
        self.assertEqual(said(desk, "call 0 1", "call 1 2", "call 1 0", "call 2 2"), ["0 0", "1 0", "2 1", "3 1"])
        self.assertEqual(desk.say("call 0 0"), "4 1 2 1 3")
        self.assertEqual(desk.say("calls"), "0:0:1:0 1:1:2:1 2:1:0:0 3:2:2:0 4:0:0:1")
        self.assertEqual(said(desk, "end 1", "end 4", "calls"), ["ok", "ok", "0:0:1:0 2:1:0:0 3:2:2:0"])
        self.assertEqual(desk.say("call 1 1"), "5 1")
        self.assertEqual(said(desk, "hall 2 1 1", "calls"), ["ok", "none"])

    def test_keeper_and_hall_have_nothing_in_common(self):
        desk = Desk()
        said(desk, "hall 3 2 2", "call 2 2", "come 1 1")
        said(desk, "lines 3", "table 1 0 / 0 1")
        self.assertEqual(desk.say("calls"), "0:2:2:0")
        desk.say("hall 4 4 8")
        self.assertEqual(desk.say("show"), "1 0 / 0 1")

    def test_all_halls(self):
        desk = Desk()
        for size in range(2, 6):
            for lines in range(1, 5):
                for middles in range(lines, 9):
                    self.assertEqual(desk.say(f"hall {size} {lines} {middles}"), "ok")
                    end = size - 1
                    for number in range(lines):
                        self.assertEqual(desk.say(f"call {end} {end}"), f"{number} {number}")
                    self.assertRaises(TooMany, desk.say, f"call 0 {end}")


class Refused(Refusing):
    def test_words_that_are_no_row(self):
        desk = Desk()
        said(desk, "table 1 2 / 0 3", "hall 2 2 3", "call 0 1")
        rows = [
            "", " ", "  ", "\t", "\n", "ok", "none", "0", "1 0 / 0 3", "piece", "-", "keeper 2", "a" * 6000,
            " " * 6000, "Desk", "log", "lines2", "tables 1 0 / 0 1", "tabl 1 0 / 0 1", "table\t1 0 / 0 1",
            "table/", "come,0,1", "None", "True", "0 come 0", "come(0, 1)"]
        for row in rows:
            self.assert_refused(desk, row, NoRow)

    def right_rows(self):
        return [
            "lines 3", "come 0 1", "beat", "waiting 0 1", "show", "wave 3", "greatest", "parted",
            "latest 0 1", "hall 3 2 2", "call 1 0", "end 0", "calls"]

    def test_blanks(self):
        desk = Desk()
        said(desk, "table 1 2 / 0 3", "hall 2 2 3", "call 0 1")
        for row in self.right_rows():
            for wrong in (f" {row}", f"{row} ", f"  {row}", f"{row}  ", f" {row} "):
                self.assert_refused(desk, wrong, NoRow)
            if " " in row:
                self.assert_refused(desk, row.replace(" ", "  "), NoRow)
                self.assert_refused(desk, row.replace(" ", "  ", 1), NoRow)
        self.assert_refused(desk, " table 1 0 / 0 1", NoRow)

    def test_tabs_and_line_feeds(self):
        desk = Desk()
        said(desk, "table 1 2 / 0 3", "hall 2 2 3", "call 0 1")
        for row in self.right_rows():
            for sign in "\t\n":
                self.assert_refused(desk, row + sign, NoRow)
                self.assert_refused(desk, sign + row, NoRow)
                if " " in row:
                    self.assert_refused(desk, row.replace(" ", sign), NoRow)
        self.assert_refused(desk, "table 1 0 / 0 1\n", NoText)
        self.assert_refused(desk, "table 1\t0 / 0 1", NoText)
        self.assert_refused(desk, "\ntable 1 0 / 0 1", NoRow)

    def test_words_too_many_and_too_few(self):
        desk = Desk()
        said(desk, "table 1 2 / 0 3", "hall 2 2 3", "call 0 1")
        for row in self.right_rows():
            self.assert_refused(desk, f"{row} 0", NoRow)
            self.assert_refused(desk, f"{row} none", NoRow)
            if " " in row:
                self.assert_refused(desk, row.rpartition(" ")[0], NoRow)
        # A table has one word or more behind it; a word without signs is one.
        self.assert_refused(desk, "table", NoRow)

    def test_capitals(self):
        desk = Desk()
        said(desk, "table 1 2 / 0 3", "hall 2 2 3", "call 0 1")
        for row in self.right_rows() + ["table 1 0 / 0 1"]:
            self.assert_refused(desk, row.upper(), NoRow)
            self.assert_refused(desk, row[0].upper() + row[1:], NoRow)

    def test_words_that_write_no_number(self):
        desk = Desk()
        said(desk, "table 1 2 / 0 3", "hall 2 2 3", "call 0 1")
        wrong = [
            "00", "01", "000000000", "-1", "-0", "+1", "1.0", "1e0", "1_0", "0x1", "a", "one", "True", "False",
            "None", "1000000000", "0000000001", "9999999999", "9" * 5900, "1,", "#", "/", "1:0", "[0]", "\"1\""]
        for word in wrong:
            for row in ("lines {}", "come {} 0", "come 0 {}", "waiting {} 0", "waiting 0 {}", "wave {}",
                        "latest {} 0", "latest 0 {}", "hall {} 1 1", "hall 2 {} 3", "hall 2 1 {}",
                        "call {} 0", "call 0 {}", "end {}"):
                self.assert_refused(desk, row.format(word), NoRow)

    def test_lines_and_halls_out_of_bounds(self):
        desk = Desk()
        said(desk, "lines 3", "come 2 2", "call 1 1")
        for row in ("lines 0", "lines 1", "lines 7", "lines 8", "lines 999999999"):
            self.assert_refused(desk, row, NoRow)
        for row in ("hall 1 1 1", "hall 6 1 1", "hall 0 1 1", "hall 2 5 5", "hall 2 0 0", "hall 2 0 1", "hall 2 2 1",
                    "hall 5 4 3", "hall 2 1 0", "hall 2 1 9", "hall 5 4 9", "hall 999999999 1 1"):
            self.assert_refused(desk, row, NoRow)

    def test_texts_that_write_no_table(self):
        desk = Desk()
        said(desk, "table 1 2 / 0 3", "call 1 1")
        texts = [
            "", " ", "  ", "1", "1 0", "1 0 /", "/ 1 0", "1 0 / 0", "1 0 / 0 3 ", " 1 0 / 0 3", "1  0 / 0 3",
            "1 0 /  0 3", "1 0/0 3", "1 0 / 0 03", "1 0 / 0 -3", "1 0 / 0 x", "1 0 / 0 1000000000000000001",
            "1 0 / 0 " + "9" * 5900, "1 0 / 0 3 / 0 0", "0 / 0", " / ", "True False / 0 0", "lines 2",
            " / ".join([" ".join(["0"] * 7)] * 7)]
        for text in texts:
            self.assert_refused(desk, f"table {text}", NoText)

    def test_sixty_and_sixty_one_pieces(self):
        desk = Desk()
        self.assertEqual(desk.say("table 60 0 / 0 0"), "ok")
        self.assertEqual(desk.say("table 20 10 / 0 30"), "ok")
        self.assertEqual(desk.say("waiting 1 1"), " ".join(str(number) for number in range(30, 60)))
        for text in ("61 0 / 0 0", "20 10 / 1 30", "0 0 / 0 1000000000000000000"):
            self.assert_refused(desk, f"table {text}", TooMany)
        self.assertEqual(said(desk, "show", "come 1 0"), ["20 10 / 0 30", "60"])
        # What writes no table is none, however many pieces it would have.
        self.assert_refused(desk, "table 61 0 / 0 01", NoText)

    def test_lines_that_are_none(self):
        desk = Desk()
        said(desk, "lines 3", "come 2 2", "hall 3 1 1", "call 0 0")
        for word in ("come", "waiting", "latest", "call"):
            for wrong in (3, 4, 999999999):
                for right in (0, 2):
                    self.assertEqual(self.assert_refused(desk, f"{word} {wrong} {right}", NoLine).at, 0)
                    self.assertEqual(self.assert_refused(desk, f"{word} {right} {wrong}", NoLine).at, 1)
                self.assertEqual(self.assert_refused(desk, f"{word} {wrong} 999999998", NoLine).at, 0)
        self.assertEqual(said(desk, "come 0 0", "call 1 1"), ["1", "1 0"])

    def test_calls_that_there_are_not(self):
        desk = Desk()
        said(desk, "hall 2 2 3", "call 0 0", "call 1 0", "end 0")
        for number in (0, 2, 999999999):
            self.assertEqual(self.assert_refused(desk, f"end {number}", NoCall).number, number)
        self.assertEqual(desk.say("calls"), "1:1:0:1")

    def test_too_many_calls(self):
        desk = Desk()
        said(desk, "hall 3 2 3", "call 0 0", "call 0 1")
        self.assert_refused(desk, "call 0 2", TooMany)
        said(desk, "call 1 2", "call 2 2")
        self.assert_refused(desk, "call 1 2", TooMany)
        self.assertEqual(desk.say("call 2 1"), "4 0")


class Own(unittest.TestCase):
    def test_two_desks_by_turns(self):
        one, other = Desk(), Desk()
        said(one, "table 1 2 / 0 3", "hall 3 2 2", "call 2 2")
        self.assertEqual(said(other, "show", "calls", "come 0 0"), ["0 0 / 0 0", "none", "0"])
        self.assertEqual(said(one, "come 0 0", "beat"), ["6", "0:0 3:0"])
        self.assertEqual(said(other, "waiting 0 0", "call 0 0", "beat"), ["0", "0 0", "0:0"])
        self.assertEqual(said(one, "calls", "end 0"), ["0:2:2:0", "ok"])
        self.assertEqual(other.say("calls"), "0:0:0:0")
        other.say("lines 5")
        self.assertEqual(one.say("show"), "1 2 / 0 2")

    def test_each_answer_is_a_text(self):
        desk = Desk()
        for row in ("lines 2", "table 1 0 / 0 1", "come 0 1", "show", "wave 1", "greatest", "parted", "latest 0 0",
                    "waiting 0 1", "beat", "hall 2 1 1", "call 0 0", "calls", "end 0"):
            self.assertIs(type(desk.say(row)), str)


class Runs(unittest.TestCase):
    def test_beside_a_keeper(self):
        for n in range(2, 7):
            chance = random.Random(n)
            desk, keeper = Desk(), Keeper(n)
            desk.say(f"lines {n}")
            for _ in range(150):
                i, j = chance.randrange(n), chance.randrange(n)
                if chance.random() < 0.7:
                    self.assertEqual(desk.say(f"come {i} {j}"), str(keeper.come(i, j)))
                else:
                    told = " ".join(f"{number}:{waited}" for number, waited in keeper.beat())
                    self.assertEqual(desk.say("beat"), told or "none")
                self.assert_answers(desk, keeper, i, j, chance.randrange(10 ** 9))

    def assert_answers(self, desk, keeper, i, j, beat):
        table = keeper.table()
        self.assertTrue(is_table(table))
        self.assertEqual(desk.say(f"waiting {i} {j}"), " ".join(map(str, keeper.waiting(i, j))) or "none")
        self.assertEqual(desk.say("show"), shown(table))
        columns = ["-" if column is None else str(column) for column in wave(table, beat)]
        self.assertEqual(desk.say(f"wave {beat}"), " ".join(columns))
        self.assertEqual(desk.say("greatest"), str(len(greatest(table)[1])))
        self.assertEqual(desk.say("parted"), str(sum(beats for _, beats in parted(table))))
        self.assertEqual(desk.say(f"latest {i} {j}"), str(latest(table, i, j)))

    def test_beside_a_hall(self):
        moved = 0
        for size, lines, middles in ((2, 1, 1), (3, 2, 2), (5, 3, 3), (5, 4, 5)):
            chance = random.Random(size * lines)
            desk, hall = Desk(), Hall(size, lines, middles)
            desk.say(f"hall {size} {lines} {middles}")
            for _ in range(300):
                front, behind = chance.randrange(size), chance.randrange(size)
                calls = hall.calls()
                sides = [[call[1] for call in calls].count(front), [call[2] for call in calls].count(behind)]
                if calls and chance.random() < 0.3:
                    number = chance.choice(calls)[0]
                    hall.end(number)
                    self.assertEqual(desk.say(f"end {number}"), "ok")
                elif max(sides) < lines:
                    number, middle, moves = hall.call(front, behind)
                    told = [number, middle, *[move[0] for move in moves]]
                    self.assertEqual(desk.say(f"call {front} {behind}"), " ".join(map(str, told)))
                    moved = max(moved, len(moves))
                told = [":".join(map(str, call)) for call in hall.calls()]
                self.assertEqual(desk.say("calls"), " ".join(told) or "none")
        self.assertGreater(moved, 2)


if __name__ == "__main__":
    unittest.main()
