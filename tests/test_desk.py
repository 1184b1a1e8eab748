import unittest

from crestkeys.desk import Desk
from crestkeys.errors import Clash, CrestError, NoBack, NoKey, NoNumber, NoRow, TooMany
from crestkeys.store import Store
from crestkeys.texts import cards_text, tree_text
from crestkeys.versions import differing, merged, new_in, steps
from tests.making import GREATEST, crest_by_leafing, dice, grown, odd_things, rising

LONG = "9" * 60
# Rows for each form, by the kinds of the words behind the first one.
FORMS = {"put": ("card",), "take": ("key",), "move": ("key", "rank"), "raise": ("number",) * 3, "go": ("number",),
         "back": (), "now": (), "cards": ("number",), "merge": ("number",) * 2, "tree": ("number",),
         "road": ("number", "key"), "new": ("number",) * 2, "steps": ("number",) * 2, "differ": ("number",) * 2}
NOT_WRITTEN = ("", "+1", "-0", "00", "01", "-01", "--1", "-", "1.0", "x", "none", "1\n", "\t1", "\u0663", "\u00b2",
               "9" * 61, "-" + "9" * 61, "1_0", "1:", ":", "ok")
WRONG = {
    "number": NOT_WRITTEN + ("1:2:3",),
    "key": NOT_WRITTEN + ("-1", str(GREATEST + 1), LONG, "1:2:3"),
    "card": NOT_WRITTEN + ("1", "1:2", "1:2:3:4", "-1:2:3", "1:-2:3", f"{GREATEST + 1}:2:3", f"1:{GREATEST + 1}:3",
                           f"1:2:{GREATEST + 1}", f"1:2:-{GREATEST + 1}", "1:2:03", "1:2:-0", "1::3", "(1:2:3)"),
}
WRONG["rank"] = WRONG["key"]
RIGHT = {"number": "0", "key": "5", "rank": "5", "card": "5:5:5"}


def told(*rows):
    """A desk that was told the rows."""
    desk = Desk()
    for row in rows:
        desk.say(row)
    return desk


def forked():
    return told("put 1:5:0", "put 2:6:0", "put 3:7:0", "take 1", "go 2", "move 2 1", "raise 1 1 9")


def state(desk):
    """All that a desk tells of its versions, by rows that change nothing."""
    rows = [desk.say("now")]
    version = 0
    while True:
        try:
            rows.append(desk.say(f"cards {version}"))
        except NoNumber:
            return rows
        version += 1


class Answers(unittest.TestCase):
    def test_deeds(self):
        desk = Desk()
        for row, answer in (("now", "0"), ("put 5:1:10", "1"), ("put 3:2:-20", "2"), ("now", "2"), ("move 5 9", "3"),
                            ("raise 4 7 -100", "4"), ("take 3", "5"), ("go 2", "ok"), ("now", "2"), ("back", "ok"),
                            ("now", "1"), ("put 8:8:8", "6"), ("cards 0", "none"), ("cards 2", "3:2:-20 5:1:10"),
                            ("cards 5", "5:9:-90"), ("cards 6", "5:1:10 8:8:8"), ("tree 0", "."),
                            ("tree 2", "(. 3:2:-20 (. 5:1:10 .))"), ("tree 3", "((. 3:2:-20 .) 5:9:10 .)")):
            self.assertEqual(desk.say(row), answer, row)
            self.assertIs(type(answer), str)

    def test_two_versions(self):
        desk = forked()
        for row, answer in (("steps 4 6", "back; back; move 2 1; raise 1 1 9"), ("steps 6 3", "back; back; put 3:7:0"),
                            ("steps 5 5", "none"), ("steps 6 4", "back; back; put 3:7:0; take 1"),
                            ("differ 4 6", "1 - 1:5:9; 2 2:6:0 2:1:0; 3 3:7:0 -"), ("differ 4 4", "none"),
                            ("differ 0 1", "1 - 1:5:0"), ("merge 3 6", "1:5:9 2:1:0 3:7:0"), ("merge 0 0", "none"),
                            ("merge 6 3", "1:5:9 2:1:0 3:7:0"), ("new 4 3", "2 3"), ("new 2 3", "none"),
                            ("new 4 4", "none"), ("new 6 5", "1")):
            self.assertEqual(desk.say(row), answer, row)
        self.assertEqual(desk.say("now"), "6")

    def test_roads(self):
        desk = forked()
        for row, answer in (("road 0 5", "none"), ("road 3 1", "3 2 1"), ("road 3 3", "3"), ("road 3 9", "3"),
                            ("road 3 0", "3 2 1"), (f"road 3 {GREATEST}", "3"), ("road 6 2", "1 2")):
            self.assertEqual(desk.say(row), answer, row)

    def test_numbers_at_their_bounds(self):
        desk = told("put 5:1:10")
        self.assertEqual(desk.say(f"raise -{LONG} {LONG} {LONG}"), "2")
        self.assertEqual(desk.say("cards 2"), f"5:1:{int(LONG) + 10}")
        self.assertEqual(desk.say("tree 2"), f"(. 5:1:{int(LONG) + 10} .)")
        self.assertEqual(desk.say("steps 1 2"), f"raise -{LONG} {LONG} {LONG}")
        self.assertEqual(desk.say("differ 1 2"), f"5 5:1:10 5:1:{int(LONG) + 10}")
        self.assertEqual(desk.say("raise 9 0 0"), "3")
        self.assertEqual(desk.say(f"put {GREATEST}:{GREATEST}:-{GREATEST}"), "4")
        self.assertEqual(desk.say(f"move {GREATEST} 0"), "5")
        self.assertEqual(desk.say(f"take {GREATEST}"), "6")
        self.assertEqual(desk.say("put 0:0:0"), "7")

    def test_samples(self):
        rng = dice(211)
        for _ in range(8):
            store, desk = Store(), Desk()
            rows = grown(rng, store, 20)
            for forebear, deed, _ in rows[1:]:
                self.assertEqual(desk.say(f"go {forebear}"), "ok")
                desk.say(self.row_for(deed))
            for one, (_, _, cards) in enumerate(rows):
                self.assertEqual(desk.say(f"cards {one}"), cards_text(rising(cards.values())))
                self.assertEqual(desk.say(f"tree {one}"), tree_text(crest_by_leafing(cards.values())))
                for other in range(0, len(rows), 3):
                    self.held(desk, store, one, other)

    def row_for(self, deed):
        return " ".join(":".join(map(str, part)) if isinstance(part, tuple) else str(part) for part in deed)

    def held(self, desk, store, one, other):
        """The answers of two versions against what the functions tell."""
        def card(thing):
            return ":".join(map(str, thing)) if thing else "-"
        due = {"steps": "; ".join(self.row_for(step) for step in steps(store, one, other)),
               "new": " ".join(map(str, new_in(store, one, other))),
               "differ": "; ".join(f"{key} {card(first)} {card(then)}"
                                   for key, first, then in differing(store, one, other))}
        for word, answer in due.items():
            self.assertEqual(desk.say(f"{word} {one} {other}"), answer or "none")
        try:
            cards = merged(store, one, other)
        except Clash as clash:
            with self.assertRaises(Clash) as caught:
                desk.say(f"merge {one} {other}")
            self.assertEqual(caught.exception.key, clash.key)
        else:
            self.assertEqual(desk.say(f"merge {one} {other}"), cards_text(cards))

    def test_desks_share_nothing(self):
        one, other = told("put 1:1:1"), Desk()
        self.assertEqual((one.say("now"), other.say("now")), ("1", "0"))

    def test_the_same_asked_again(self):
        desk = forked()
        for row in ("now", "cards 4", "tree 4", "road 3 1", "new 4 3", "steps 4 6", "differ 4 6", "merge 3 6"):
            self.assertEqual(desk.say(row), desk.say(row))


class Refusals(unittest.TestCase):
    def refused(self, desk, error, row, kept=None):
        before = state(desk)
        for _ in range(2):
            with self.assertRaises(CrestError, msg=repr(row)) as caught:
                desk.say(row)
            self.assertIs(type(caught.exception), error, row)
            self.assertEqual(list(vars(caught.exception).values()), [] if kept is None else [kept])
        self.assertEqual(state(desk), before)

    def test_what_is_no_text(self):
        for thing in odd_things() + [["now"], ("now",), ["put", "1:2:3"]]:
            self.refused(forked(), NoRow, thing)

    def test_words_too_many_or_few(self):
        desk = forked()
        for word, forms in FORMS.items():
            right = [word] + [RIGHT[form] for form in forms]
            for many in range(1, len(right)):
                self.refused(desk, NoRow, " ".join(right[:many]))
            for more in ("0", "5:5:5", "x", "", " ", right[-1]):
                self.refused(desk, NoRow, " ".join(right + [more]))
            self.refused(desk, NoRow, " " + " ".join(right))
            self.refused(desk, NoRow, "  ".join(right) if forms else word + " ")
            self.refused(desk, NoRow, " ".join(right) + "\n")

    def test_other_words(self):
        desk = forked()
        for row in ("", " ", "  ", "Now", "NOW", "no", "nows", "now;", "many", "deed 1", "forebear 1", "say now", "ok",
                    "none", "do put 1:1:1", "put,1:1:1", "put\t1:1:1", "put\n1:1:1", "put\u00a01:1:1", "now\t", "merged 0 0",
                    "; now", "now; now", "1", "0", "-"):
            self.refused(desk, NoRow, row)

    def test_words_not_so_written(self):
        desk = forked()
        for word, forms in FORMS.items():
            for at, form in enumerate(forms):
                for wrong in WRONG[form]:
                    words = [RIGHT[other] for other in forms]
                    words[at] = wrong
                    self.refused(desk, NoRow, " ".join([word] + words))

    def test_no_row_goes_ahead_of_all_others(self):
        desk = forked()
        for row in ("road 99 -1", "road 99 01", "new 99 x", "new x 99", "steps 99 +1", "differ 99 1 1", "merge 4 6 0",
                    "move 77 -1", "take 077", "cards 99 0", "go 99 9", "back 0"):
            self.refused(desk, NoRow, row)
        self.refused(Desk(), NoRow, "back ")
        whole = told(*[f"put {key}:1:1" for key in range(40)])
        self.refused(whole, NoRow, "put 40:1:1 ")
        self.refused(whole, NoRow, f"put 40:1:{GREATEST + 1}")

    def test_as_the_functions_refuse(self):
        desk = forked()
        self.refused(Desk(), NoBack, "back")
        for key in (1, 9, GREATEST):
            self.refused(Desk(), NoKey, f"take {key}", key)
            self.refused(Desk(), NoKey, f"move {key} 5", key)
        self.refused(desk, Clash, "merge 4 6", 1)
        for number in (7, -1, 99, int(LONG), -int(LONG)):
            for word in ("go", "cards", "tree"):
                self.refused(desk, NoNumber, f"{word} {number}", number)
            self.refused(desk, NoNumber, f"road {number} 1", number)
            self.refused(desk, NoNumber, f"road {number} 77", number)
            for word in ("merge", "new", "steps", "differ"):
                self.refused(desk, NoNumber, f"{word} {number} 1", number)
                self.refused(desk, NoNumber, f"{word} 1 {number}", number)
                self.refused(desk, NoNumber, f"{word} {number} 123", number)
                self.refused(desk, NoNumber, f"{word} 123 {number}", 123)

    def test_too_many(self):
        desk = told(*[f"put {key}:1:1" for key in range(40)])
        self.refused(desk, TooMany, "put 40:1:1", 40)
        self.assertEqual(desk.say("put 39:2:2"), "41")
        for _ in range(158):
            desk.say("raise 0 9 1")
        self.assertEqual(desk.say("now"), "199")
        for row in ("raise 0 9 1", "take 5", "move 5 5", "put 5:5:5"):
            self.refused(desk, TooMany, row, 200)
        self.refused(desk, TooMany, "put 40:1:1", 40)
        self.refused(desk, NoKey, "take 40", 40)

    def test_chance(self):
        rng = dice(212)
        desk = Desk()
        words = list(FORMS) + ["0", "1", "5", "-1", "", "5:5:5", "3:1:-4", "x"]
        for _ in range(3000):
            row = " ".join(rng.choices(words, k=rng.randint(0, 4)))
            before = state(desk) if rng.random() < .02 else None
            try:
                self.assertIs(type(desk.say(row)), str)
            except CrestError:
                if before is not None:
                    self.assertEqual(state(desk), before)


if __name__ == "__main__":
    unittest.main()
