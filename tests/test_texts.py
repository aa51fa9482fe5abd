"""Promise 13: keeps with plans, and histories, as texts, and read again."""

import itertools

from builders import CHOICES, KINDS, EqualToAll
from cases import Case
from model import deeds_by_the_words
from sizes import BEYOND

from quietharm.deeds import trace
from quietharm.desks import Desk
from quietharm.errors import BadHistory, BadKeep, BadPlan, BadText
from quietharm.keeps import Keep, Plan
from quietharm.texts import history_text, plan_text, read_history, read_plan

ONE, BARE = Keep(1, 1, ("worn",)), Plan(("bare",), (0,), mends=False)
FULL = Keep.full(3, 2, most=2)
BOTH = Plan(("noted", "named"), (2, 0, 1), choice="most", limit=1)
LINES = ["shelves 3", "blocks 2", "harms astray late lost torn worn", "most 2", "sums noted named", "order 2 0 1",
         "choice most", "mends yes", "limit 1"]
SMALL = ["shelves 1", "blocks 1", "harms worn", "most 1", "sums bare", "order 0", "choice first", "mends no", "limit none"]
KEEP, PLAN = Keep(2, 2, ("astray", "late", "lost", "torn", "worn"), most=2), Plan(("whole", "bare"), (0, 1))
HISTORY = [("write", 0, ("done", "torn")), ("land", 1, 0), ("wear", 0, 0, 1), ("round",)]
POSSIBLE = [("write", 0, ("done", "late")), ("land", 1, 0), ("wear", 0, 0, 1), ("round",), ("write", 1, ("astray", "lost"))]
ROWS = ["write 0 done late", "land 1 0", "wear 0 0 1", "round", "write 1 astray lost"]
ODD_TEXTS = (None, True, 0, b"", b"round\n", [], ["round\n"], ("round",), {}, object(), KEEP, EqualToAll())
# What looks like a figure, and is none that is written.
ODD_FIGURES = ("+{}", "-{}", "0{}", "{}.0", "{} ", " {}", "{}\t", "{},", "0x{}", "{}L", "({})", "{}_0", "{}\r", "{}\u00a0")


def text_of(lines):
    return "".join(line + "\n" for line in lines)


def odd_figures(figure):
    """The figure written in other ways, and with other signs."""
    return [form.format(figure) for form in ODD_FIGURES] + [chr(start + int(figure)) for start in (0x660, 0xff10, 0x966)] + [
        {"0": "\u2070", "1": "\u00b9", "2": "\u00b2", "3": "\u00b3"}[figure], "one", "I", ""]


class PlanTextTest(Case):
    def test_by_hand(self):
        self.assertEqual(plan_text(FULL, BOTH), text_of(LINES))
        self.assertEqual(plan_text(ONE, BARE), text_of(SMALL))
        self.assertEqual(plan_text(Keep(2, 1, (), most=0), Plan(("whole",), (1, 0), choice="newest", limit=2)),
                         "shelves 2\nblocks 1\nharms\nmost 0\nsums whole\norder 1 0\nchoice newest\nmends yes\nlimit 2\n")

    def test_all_keeps_and_plans_are_read_again(self):
        words = ("astray", "late", "lost", "torn", "worn")
        ways = itertools.cycle(itertools.product(CHOICES, (True, False), (None, 1, 2), (0, 1, 2)))
        seen = set()
        for shelves, blocks in itertools.product((1, 2, 3), (1, 2)):
            orders = itertools.cycle(itertools.permutations(range(shelves)))
            sums = itertools.cycle(itertools.product(KINDS, repeat=blocks))
            for bits in itertools.product((True, False), repeat=5):
                harms = tuple(word for word, bit in zip(words, bits) if bit and (word != "astray" or blocks == 2))
                choice, mends, limit, most = next(ways)
                keep = Keep(shelves, blocks, harms, most=most)
                plan = Plan(next(sums), next(orders), choice=choice, mends=mends, limit=limit)
                text = self.assert_unchanged(plan_text, keep, plan)
                self.assertEqual(read_plan(text), (keep, plan))
                self.assertEqual([line.split(" ")[0] for line in text.split("\n")[:9]],
                                 [line.split(" ")[0] for line in LINES])
                seen.add(text)
        self.assertGreater(len(seen), 90)

    def test_errors_in_their_order(self):
        for keep in (None, PLAN, 1):
            self.assert_refused(BadKeep, plan_text, keep, None, part=None)
        for plan in (None, FULL, BARE, BOTH.but("order", (0, 1)), BOTH.but("sums", ("bare",)), EqualToAll()):
            self.assert_refused(BadPlan, plan_text, FULL, plan, part=None)


class ReadPlanTest(Case):
    def assert_wrong(self, lines, row, rest=""):
        self.assert_refused(BadText, read_plan, text_of(lines) + rest, row=row)

    def replaced(self, row, line, lines=LINES):
        return lines[:row] + [line] + lines[row + 1:]

    def test_pairs_are_new(self):
        found = read_plan(text_of(LINES))
        self.assertIsInstance(found, tuple)
        self.assertEqual(found, (FULL, BOTH))
        self.assertIsNot(found[0], read_plan(text_of(LINES))[0])

    def test_no_strings(self):
        for odd in ODD_TEXTS:
            self.assert_refused(BadText, read_plan, odd, row=0)

    def test_lines_missing(self):
        for size in range(9):
            self.assert_wrong(LINES[:size], size)
        self.assert_refused(BadText, read_plan, "", row=0)
        for row in range(8):
            self.assert_wrong(LINES[:row] + LINES[row + 1:], row)

    def test_lines_twice_and_exchanged(self):
        for row in range(9):
            self.assert_wrong(LINES[:row + 1] + LINES[row:], row + 1)
            self.assert_wrong(self.replaced(row, ""), row)
            for other in range(row + 1, 9):
                lines = list(LINES)
                lines[row], lines[other] = lines[other], lines[row]
                self.assert_wrong(lines, row)

    def test_tenth_line_and_what_follows(self):
        for line in ("", "limit 1", "round", " "):
            self.assert_wrong(LINES + [line], 9)
            self.assert_wrong(LINES + [line] * 3, 9)
        for rest in (" ", "limit 1", "\r", "\x00", "x"):
            self.assert_wrong(LINES, 9, rest)
            self.assert_wrong(LINES + ["limit 1"], 9, rest)

    def test_last_line_feed_missing(self):
        for size in range(1, 10):
            self.assert_refused(BadText, read_plan, text_of(LINES[:size])[:-1], row=size - 1)
            self.assert_wrong(LINES[:size], size, "\n" if size < 9 else "x")
        for size in range(1, 9):
            self.assert_wrong(LINES[:size], size, LINES[size])

    def test_first_wrong_line_is_told(self):
        for row in range(9):
            for later in range(row, 9):
                lines = self.replaced(later, "odd", self.replaced(row, "odd"))
                self.assert_wrong(lines, row)
                self.assert_wrong(lines + ["odd"], row, "odd")

    def test_words_of_each_line(self):
        for row, line in enumerate(LINES):
            name, *values = line.split(" ")
            for odd in (name, name.title() + line[len(name):], line.upper(), line + " 0", line + " ", " " + line, line + "\t",
                        line.replace(" ", "  ", 1), line.replace(" ", "\t", 1), line.replace(" ", "\u00a0", 1), line + "\r",
                        line.replace(" ", ""), line.replace(" ", " = ", 1), name + ":" + line[len(name):], line + " #",
                        line + " " + values[-1], line[len(name) + 1:], line + "\x0b", line + "\x1c", line + "\u2028",
                        "\ufeff" + line, line.replace(" ", "_", 1)):
                if (row, odd) != (2, name):
                    self.assert_wrong(self.replaced(row, odd), row)

    def test_figures(self):
        for row, places in ((0, 1), (1, 1), (3, 1), (5, 3), (8, 1)):
            words = LINES[row].split(" ")
            for at in range(1, places + 1):
                for odd in odd_figures(words[at]) + ["4", "9", "-1", "none" if row != 8 else "None", "True", "1" * 5000]:
                    line = " ".join(words[:at] + [odd] + words[at + 1:])
                    self.assert_wrong(self.replaced(row, line), row)
        for row, odd in ((0, "shelves 0"), (0, "shelves 4"), (1, "blocks 0"), (1, "blocks 3"), (3, "most 3"), (8, "limit 0"),
                         (8, "limit 3"), (8, "limit None"), (8, "limit no")):
            self.assert_wrong(self.replaced(row, odd), row)

    def test_values_that_are_none(self):
        for row, odds in ((2, ("harms none", "harms late astray", "harms lost lost", "harms done", "harms odd", "harms Late",
                               "harms late,lost", "harms late lost worn torn")),
                          (4, ("sums", "sums noted", "sums noted named bare", "sums noted odd", "sums Noted named")),
                          (5, ("order", "order 0 1", "order 0 1 1", "order 0 1 3", "order 1 2 3", "order 0 1 2 0",
                               "order 012")),
                          (6, ("choice", "choice odd", "choice First", "choice first newest")),
                          (7, ("mends", "mends true", "mends True", "mends 1", "mends Yes", "mends none", "mends yes no"))):
            for odd in odds:
                self.assert_wrong(self.replaced(row, odd), row)

    def test_values_that_do_not_go_with_those_before_them(self):
        for row, line, later in ((1, "blocks 1", 2), (0, "shelves 2", 5), (0, "shelves 1", 5)):
            self.assert_wrong(self.replaced(row, line), later)
        lines = self.replaced(1, "blocks 1")
        lines[2] = "harms late lost"
        self.assert_wrong(lines, 4)
        for row, line in ((2, "harms astray"), (2, "harms astray worn"), (4, "sums bare bare"), (5, "order 1"),
                          (5, "order 0 1")):
            self.assert_wrong(self.replaced(row, line, SMALL), row)
        self.assertEqual(read_plan(text_of(self.replaced(2, "harms"))), (Keep(3, 2, (), most=2), BOTH))
        self.assertEqual(read_plan(text_of(self.replaced(2, "harms", SMALL))), (Keep(1, 1), BARE))
        self.assert_wrong(self.replaced(2, "harms "), 2)

    def test_other_line_ends(self):
        for end in ("\r\n", "\r", "\x0b", "\x0c", "\x85", "\u2028", " \n", "\n\n"):
            text = "".join(line + end for line in LINES)
            self.assert_refused(BadText, read_plan, text, row=1 if end == "\n\n" else 0)
        self.assert_refused(BadText, read_plan, "\n" + text_of(LINES), row=0)
        self.assert_refused(BadText, read_plan, text_of(LINES) + "\n", row=9)


class HistoryTextTest(Case):
    def test_by_hand(self):
        self.assertEqual(history_text(KEEP, PLAN, POSSIBLE), text_of(ROWS))
        self.assertEqual(history_text(KEEP, PLAN, []), "")
        self.assertEqual(history_text(ONE, BARE, [("write", 0, ("done",)), ("round",)]), "write 0 done\nround\n")

    def test_lists_and_tuples(self):
        for told in (POSSIBLE, tuple(POSSIBLE), [], ()):
            text = self.assert_unchanged(history_text, KEEP, PLAN, told)
            self.assertEqual(self.assert_unchanged(read_history, KEEP, PLAN, text), list(told))

    def test_what_is_no_history(self):
        for odd in (None, True, 0, "", "round\n", {}, {("round",): 0}, object(), iter([]), EqualToAll()):
            self.assert_refused(BadHistory, history_text, KEEP, PLAN, odd, index=None)
        for at in range(len(POSSIBLE) + 1):
            for odd in (None, "round", ["round"], (), ("round", 0), ("land", 0, 0), ("wear", 0, 0, 2),
                        ("write", 0, ["done", "done"])):
                for rest in ([], [("round",)], [None]):
                    self.assert_refused(BadHistory, history_text, KEEP, PLAN, POSSIBLE[:at] + [odd] + rest, index=at)
        self.assert_refused(BadHistory, history_text, KEEP, PLAN, tuple(HISTORY), index=1)

    def test_errors_in_their_order(self):
        for ask in (history_text, read_history):
            for keep in (None, PLAN, 1):
                self.assert_refused(BadKeep, ask, keep, None, None, part=None)
            for plan in (None, KEEP, BARE, PLAN.but("order", (0,)), PLAN.but("sums", ("bare",))):
                self.assert_refused(BadPlan, ask, KEEP, plan, None, part=None)


class ReadHistoryTest(Case):
    def assert_wrong(self, lines, row, rest=""):
        self.assert_refused(BadText, read_history, KEEP, PLAN, text_of(lines) + rest, row=row)

    def test_by_hand(self):
        self.assertEqual(read_history(KEEP, PLAN, text_of(ROWS)), POSSIBLE)
        self.assertEqual(read_history(KEEP, PLAN, ""), [])
        found = read_history(KEEP, PLAN, text_of(ROWS))
        self.assertIsInstance(found, list)
        self.assertTrue(all(isinstance(deed, tuple) for deed in found))

    def test_no_strings(self):
        for odd in ODD_TEXTS:
            self.assert_refused(BadText, read_history, KEEP, PLAN, odd, row=0)

    def test_all_deeds_that_are_possible_somewhere(self):
        keep, plan = Keep(2, 1, ("late", "torn", "worn")), Plan(("noted",), (1, 0), limit=1)
        desk = Desk(keep, plan)
        for deed in [("write", 0, ("late", "done")), ("round",), ("wear", 1, 0, 0), ("round",)]:
            for other in deeds_by_the_words(keep, desk.state):
                history = desk.journal + [other]
                text = history_text(keep, plan, history)
                self.assertEqual(len(text.split("\n")), len(history) + 1)
                self.assertEqual(read_history(keep, plan, text), history)
            desk.do(*deed)

    def test_line_that_is_no_deed(self):
        odds = ["", " ", "odd", "Round", "ROUND", "round ", " round", "round 0", "round\t", "round\r", "rounds", "write",
                "write ", "write 0", "write 0 ", "write 0 done", "write 0 done done done", "write 2 done done",
                "write 0 done odd", "write 0  done done", "write 0 done  done", "write 0 done done ", "write 0 done,done",
                "write 0\tdone done", "write 00 done done", "write +0 done done", "write \u0660 done done", "land", "land 0",
                "write None done done", "write -1 done done", "write 0 Done done", "land 2 0", "wear 0 0", "wear 0 0 2",
                "wear 0 0 0 0", "wear 0 0 \u00b9", "wear 0 0 01", "wear  0 0 1", "wear 0 0 1 ", "wear 0 0 none", "done done"]
        for odd in odds:
            for at in range(len(ROWS) + 1):
                for rest in ([], ["round"], [odd]):
                    self.assert_wrong(ROWS[:at] + [odd] + rest, at)
                    self.assert_wrong(ROWS[:at] + [odd] + rest, at, "x")

    def test_deed_that_is_not_of_the_keep_or_not_possible_then(self):
        self.assert_refused(BadText, read_history, ONE, BARE, "write 0 lost\n", row=0)
        self.assert_refused(BadText, read_history, ONE, BARE, "round\nwear 0 0 0\nwear 0 0 1\n", row=2)
        self.assert_refused(BadText, read_history, ONE, BARE, "wear 0 0 0\nround\nwear 0 0 0\nround\n", row=2)
        for at in range(len(ROWS) + 1):
            for line in ("land 0 0", "land 0 1"):
                self.assert_wrong(ROWS[:at] + [line] + ["odd"], at)
        self.assert_wrong(["write 0 done torn", "land 1 0"], 1)
        self.assert_wrong(ROWS + ["wear 0 0 1"], 5)

    def test_characters_behind_the_last_line_feed(self):
        for size in range(len(ROWS) + 1):
            for rest in (" ", "x", "round", "\r", "\x00", "write 0 done done"):
                self.assert_wrong(ROWS[:size], size, rest)
        for size in range(1, len(ROWS) + 1):
            self.assert_refused(BadText, read_history, KEEP, PLAN, text_of(ROWS[:size])[:-1], row=size - 1)

    def test_other_line_ends(self):
        for end in ("\r\n", "\r", "\x0b", "\x85", "\u2028", "\n\n"):
            text = "".join(row + end for row in ROWS)
            self.assert_refused(BadText, read_history, KEEP, PLAN, text, row=1 if end == "\n\n" else 0)

    def test_long_histories(self):
        keep, plan = BEYOND[3]
        history = [("write", 0, ("done", "done", "late")), ("land", 2, 0), ("round",)] * 200
        text = history_text(keep, plan, history)
        self.assertEqual(read_history(keep, plan, text), history)
        self.assertEqual(trace(keep, plan, read_history(keep, plan, text)), trace(keep, plan, history))
        self.assert_refused(BadText, read_history, keep, plan, text + "land 2 0\n", row=600)
