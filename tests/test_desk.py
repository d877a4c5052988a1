"""Points 41 and 42: a desk, its rows and their answers, and all that is refused."""

import random
import unittest

from tests.helper import Refusals, some_catch
from tests.stacking import some_stack, some_stacked_catch
from tests.wishing import some_wish
from wirelooker.catches import cut, moments_of
from wirelooker.catchtexts import show_catch
from wirelooker.desk import Desk
from wirelooker.errors import Full, NoCatch, NoItem, NoRow, NoStack, NoText, NoWatch, NoWish
from wirelooker.looker import PIECES, Looker
from wirelooker.making import made
from wirelooker.packets import numbers_of
from wirelooker.stacks import show_stack
from wirelooker.wishtexts import show_wish

FRAMED = "framed d 4 8 none 1 ; packets 7 255 sum ; talks"
ASKED = show_catch(made(("framed", "d", 4, 8, "none", 1), [numbers_of([(5, 30), (133, 40), (6,)], 7)]))
# The words that are rows alone, or with such things behind them.
SAMPLES = ("feed d 1x3", "watch high d", "stack framed d 4 8 none 1", "drop 0", "first 0", "when 0", "layer 1 0", "lead 1 0 0",
           "owner 1 0 d 5", "back", "show")


def told_of(desk):
    """All that a desk tells."""
    if desk.looker is None:
        return (len(desk), None)
    looker = desk.looker
    return (len(desk), desk.say("show"), looker.kept(), looker.log(), looker.catch())


class DeskTest(Refusals, unittest.TestCase):
    def stands(self, desk, kind, fields, row):
        """Looks that a row is refused, and that nothing comes of it."""
        looker, before = desk.looker, told_of(desk)
        self.refused(kind, fields, desk.say, row)
        self.assertIs(desk.looker, looker)
        self.assertEqual(told_of(desk), before)

    def no_row(self, desk, *rows):
        for row in rows:
            self.stands(desk, NoRow, {}, row)

    def says(self, desk, *pairs):
        for row, answer in pairs:
            self.assertEqual(desk.say(row), answer, row)


class TestAnswers(DeskTest):
    def test_all_rows(self):
        desk = Desk()
        self.assertEqual(len(desk), 0)
        self.says(
            desk, ("lines c d", "2 lines"), ("show", "c ; d"), ("watch held 2 high d", "kept 0"), ("first 0", "none"),
            ("when 0", "none"), ("feed c 0x5 ; d 0x1 1x4", "5 moments"), ("show", "c 0x5 ; d 0x1 1x4"), ("first 0", "2"),
            ("when 0", "2-5"), ("feed c 1x3 ; d 0x1 1x2", "8 moments"), ("when 0", "2-5 7-8"),
            ("show", "c 0x5 1x3 ; d 0x1 1x4 0x1 1x2"), ("feed c ; d", "8 moments"), ("back", "back"), ("back", "back"),
            ("show", "c 0x5 ; d 0x1 1x4"), ("when 0", "2-5"), ("stack twowire c d ; calls", "kept 1"), ("drop 0", "dropped 0"),
            ("back", "back"), ("drop 1", "dropped 1"), ("watch yes", "kept 2"), ("when 2", "0-5"), ("back", "back"))
        self.assertEqual(len(desk), 1)
        self.says(desk, ("back", "back"), ("back", "back"), ("back", "back"), ("back", "back"), ("back", "nothing"),
                  ("back", "nothing"), ("watch yes", "kept 0"))
        self.assertEqual((len(desk), desk.say(row="show")), (0, "c ; d"))

    def test_layers_leads_and_owners(self):
        desk = Desk()
        self.says(desk, ("lines d", "1 lines"), ("stack " + FRAMED, "kept 0"), ("layer 0 0", "none"), ("layer 0 2", "none"),
                  ("feed " + ASKED, "564 moments"))
        word = ["word {}-{}".format(2 + 40 * at, 41 + 40 * at) for at in range(14)]
        self.says(desk, ("layer 0 0", " , ".join(word)), ("layer 0 1", "packet 2-201 , packet 202-401 , packet 402-561"),
                  ("layer 0 2", "talk 2-401"),
                  ("lead 0 0 1", " , ".join("d {}".format(44 + 4 * at) for at in range(10))),
                  ("owner 0 0 d 44", "1"), ("owner 0 0 d 40", "0"), ("owner 0 0 d 43", "none"), ("owner 0 1 d 40", "0"),
                  ("owner 0 1 d 404", "2"), ("owner 0 2 d 404", "none"), ("owner 0 2 d 204", "0"), ("owner 0 0 x 44", "none"),
                  ("owner 0 1 other 44", "none"), ("owner 0 0 d 1000000000", "none"))
        self.assertEqual(desk.say("lead 0 2 0"), desk.say("lead 0 1 0") + " , " + desk.say("lead 0 1 1"))

    def test_the_layer_is_what_is_settled(self):
        desk = Desk()
        self.says(desk, ("lines d", "1 lines"), ("stack framed d 4 8 none 1", "kept 0"), ("feed d 1x2 0x4 1x34", "40 moments"),
                  ("layer 0 0", "none"), ("feed d 1x1", "41 moments"), ("layer 0 0", "word 2-41"), ("back", "back"),
                  ("layer 0 0", "none"), ("feed d 1x9", "49 moments"), ("layer 0 0", "word 2-41"))
        self.says(desk, ("lines c d", "2 lines"), ("feed c 1x9 ; d 1x3 0x2 1x4", "9 moments"), ("stack twowire c d ; calls", "kept 0"),
                  ("layer 0 0", "start 3-4 , stop 5-6"), ("layer 0 1", "empty 3-6"), ("lead 0 1 0", "d 3 , d 5"))

    def test_text_has_its_own_line_feeds(self):
        desk = Desk()
        desk.say("lines a b c")
        self.assertEqual(desk.say("feed a 0x1 ; b 1x1 ; c 0x1"), "1 moments")
        self.assertEqual(desk.say("show"), "a 0x1 ; b 1x1 ; c 0x1")
        # From the left on, none within another; any other sign of the kind stands for itself.
        for row, at in (("feed a 0x1 ; ; b 1x1", 1), ("feed a 0x1; b 1x1", 0), ("feed a 0x1 ;b 1x1", 0), ("feed ; a 0x1", 0),
                        ("feed a 0x1 ;", 0), ("feed a 0x1 ; b 1x1 ;", 1), ("feed a 0x1 ; ; ; b 0x1", 1), ("feed ;", 0),
                        ("feed ; ; a 0x1", 0), ("watch both ; high a", 0), ("watch both yes;", 1), ("watch ; yes", 0),
                        ("watch not yes ; yes", 1), ("stack ;", 0), ("stack twowire a b ; ; calls", 1),
                        ("stack twowire a b;calls", 0), ("stack ; twowire a b", 0), ("stack twowire a b ; calls ;", 1)):
            self.stands(desk, NoText, {"at": at}, row)

    def test_what_is_shown_is_told_to_another(self):
        chance = random.Random(41)
        for _ in range(40):
            names = ["c", "d", "g"][:chance.randint(1, 3)]
            desk, other = Desk(), Desk()
            for _ in range(2):
                desk.say("lines " + " ".join(names))
                for _ in range(chance.randrange(4)):
                    catch = some_catch(chance, names, chance.randrange(9), 3)
                    desk.say("feed " + show_catch(catch).replace("\n", " ; "))
                other.say("lines " + " ".join(names))
                self.assertEqual(other.say("feed " + desk.say("show")), f"{moments_of(desk.looker.catch())} moments")
                self.assertEqual(other.say("show"), desk.say("show"))
                self.assertTrue(other.looker == desk.looker)

    def test_two_desks(self):
        one, other = Desk(), Desk(most=1)
        one.say("lines a")
        self.no_row(other, "show")
        other.say("lines b")
        self.says(one, ("feed a 1x2", "2 moments"), ("watch high a", "kept 0"))
        self.says(other, ("show", "b"), ("back", "nothing"), ("watch high b", "kept 0"), ("watch low b", "kept 1"))
        self.says(one, ("show", "a 1x2"), ("when 0", "0-2"), ("back", "back"), ("show", "a 1x2"))
        self.assertEqual((len(one), len(other)), (1, 0))

    def test_lines_told_anew(self):
        desk = Desk(most=1)
        self.says(desk, ("lines a", "1 lines"), ("feed a 1x2", "2 moments"), ("watch high a", "kept 0"))
        self.assertEqual(len(desk), 1)
        self.says(desk, ("lines a b c d e", "5 lines"), ("show", "a ; b ; c ; d ; e"), ("back", "nothing"))
        self.stands(desk, NoWatch, {"number": 0}, "first 0")
        self.assertEqual(len(desk), 0)
        self.says(desk, ("lines lines feed back show drop", "5 lines"), ("show", "lines ; feed ; back ; show ; drop"),
                  ("watch high drop", "kept 0"), ("feed lines ; feed ; back ; show ; drop", "0 moments"))
        self.stands(desk, Full, {"most": 1}, "feed lines ; feed ; back ; show ; drop")

    def test_as_the_looker_tells(self):
        chance = random.Random(410)
        for _ in range(30):
            stack = some_stack(chance)
            catch = some_stacked_catch(chance, stack)
            names = [name for name, _ in catch]
            desk, looker = Desk(), Looker(names)
            desk.say("lines " + " ".join(names))
            wish = ("within", 2, ("rise", "d")) if len(names) < 3 else some_wish(chance, names, 2)
            self.assertEqual(desk.say("watch " + show_wish(wish)), f"kept {looker.watch(wish)}")
            self.assertEqual(desk.say("stack " + show_stack(stack).replace("\n", " ; ")), f"kept {looker.stack(stack)}")
            middle = chance.randint(0, moments_of(catch))
            for piece in (cut(catch, 0, middle), cut(catch, middle, moments_of(catch))):
                looker.feed(piece)
                self.assertEqual(desk.say("feed " + show_catch(piece).replace("\n", " ; ")),
                                 f"{moments_of(looker.catch())} moments")
                spans = " ".join(f"{begin}-{end}" for begin, end in looker.when(0))
                first = looker.first(0)
                self.says(desk, ("when 0", spans or "none"), ("first 0", "none" if first is None else str(first)))
                for layer, items in enumerate(looker.read(1)):
                    row = " , ".join(f"{item[0]} {item[2]}-{item[3]}" for item in items)
                    self.assertEqual(desk.say(f"layer 1 {layer}"), row or "none")
                    for number in range(len(items)):
                        places = desk.say(f"lead 1 {layer} {number}").split(" , ")
                        for place in (places[0], places[-1]):
                            self.assertEqual(desk.say(f"owner 1 {layer} {place}"), str(number))


class TestRefused(DeskTest):
    def some_desk(self):
        desk = Desk(most=2)
        for row in ("lines d", "watch high d", "stack " + FRAMED, "feed " + ASKED):
            desk.say(row)
        return desk

    def test_rows_ahead_of_lines(self):
        for rows in (SAMPLES, ("feed x", "watch x", "stack x", "drop 9", "feed d 1x3 ; d 1x3")):
            desk = Desk()
            self.no_row(desk, *rows)
            self.assertEqual(len(desk), 0)
            self.assertEqual(desk.say("lines d"), "1 lines")

    def test_other_words_and_counts(self):
        for desk in (Desk(), self.some_desk()):
            self.no_row(
                desk, "", " ", "d", "Show", "shows", "show d", "show 0", "back 1", "back back", "lines", "feed", "watch", "stack",
                "drop", "drop 0 0", "first", "first 0 0", "when", "when 0 1", "layer", "layer 1", "layer 1 0 0", "lead 1 0",
                "lead 1 0 0 0", "lead 1", "owner 1 0 d", "owner 1 0 d 5 5", "owner 1 0", "owner d 5", "several", "read 1", "kept",
                "log", "catch", "line d", "0", "None", ";", "; show", "show ;", "back;", "drop -1", "drop +1", "drop 1.0",
                "drop 0x0", "drop d", "drop ;", "owner 1 0 5 d", "owner d 1 0 5", "none", "init")

    def test_words_without_signs(self):
        for desk in (Desk(), self.some_desk()):
            for row in SAMPLES + ("lines d", "lines d c", "feed d 1x3 ; c 1x3", "stack " + FRAMED):
                self.no_row(desk, " " + row, row + " ", "  " + row, row + "  ")
                for at, sign in enumerate(row):
                    if sign == " ":
                        self.no_row(desk, row[:at] + " " + row[at:], row[:at] + "  " + row[at:])
            self.no_row(desk, "feed ", "feed  ", "watch ", "stack ", "lines ", "feed  ; ", "feed ; ", "feed d 1x3 ; ", "feed d 1x3 ;  ; c",
                        "watch  yes")

    def test_line_feeds(self):
        for desk in (Desk(), self.some_desk()):
            for row in SAMPLES + ("lines d",):
                self.no_row(desk, row + "\n", "\n" + row, row.replace(" ", "\n", 1) + "\n", row.replace(" ", "\n") + " \n ")
            self.no_row(desk, "feed d 1x3\nc 1x3", "stack twowire c d\ncalls", "lines c\nd", "\n", "watch\nyes", "watch high\nd")

    def test_figures(self):
        desk = self.some_desk()
        for wrong in ("00", "01", "000", "1000000001", "9999999999", "10000000000", "1" * 5000, "0" * 5000, "-0", "-1", "+0", "x", "0;",
                      "1e3", "0_0"):
            self.no_row(desk, f"drop {wrong}", f"first {wrong}", f"when {wrong}", f"layer {wrong} 0", f"layer 1 {wrong}",
                        f"lead {wrong} 0 0", f"lead 1 {wrong} 0", f"lead 1 0 {wrong}", f"owner {wrong} 0 d 5", f"owner 1 {wrong} d 5",
                        f"owner 1 0 d {wrong}", f"owner 9 9 D {wrong}")
        for number in (2, 9, 10, 999999999, 1000000000):
            for row in ("drop {}", "first {}", "when {}", "layer {} 0", "lead {} 0 0", "owner {} 0 d 5"):
                self.stands(desk, NoWatch, {"number": number}, row.format(number))

    def test_names(self):
        for desk in (Desk(), self.some_desk()):
            self.no_row(desk, "lines a a", "lines a b c d e f", "lines A", "lines a1", "lines sevenof", "lines a b c d a", "lines 0",
                        "lines a ; b", "lines a,b", "lines d;", "lines a b B")
        desk = self.some_desk()
        for name in ("D", "d1", "sevenof", "-", "5", "d;", ";"):
            self.no_row(desk, f"owner 1 0 {name} 5", f"owner 9 9 {name} 5")

    def test_texts(self):
        desk = self.some_desk()
        for row, at in (("feed x", None), ("feed d 1x3 1x3", 0), ("feed D", 0), ("feed d 1x3 ; c 1x2", 1), ("feed d 2x2", 0),
                        ("feed d 1x03", 0), ("feed d 1x3 ; d 1x3", 1), ("feed a ; b ; c ; d ; e ; f", 5),
                        ("watch", None), ("watch high", 1), ("watch no", 0), ("watch high d d", 2), ("watch held 01 yes", 1),
                        ("watch read 0 1 twowire c c", 3), ("stack calls", 0), ("stack twowire c d ; talks", 1),
                        ("stack " + FRAMED + " ; talks", 3), ("stack framed d 4 8 none 1 ; packets 7 256 sum", 1)):
            if at is not None:
                self.stands(desk, NoText, {"at": at}, row)
        # A row is looked at for its text even where the Looker would refuse it, too.
        desk.say("feed d")
        self.stands(desk, NoText, {"at": 0}, "feed d 2x2")
        self.stands(desk, Full, {"most": 2}, "feed d")

    def test_as_the_looker_refuses(self):
        desk = self.some_desk()
        desk.say("feed d 1x1")
        for row, at in (("feed c 1x3", 0), ("feed d 1x3 ; c 1x3", 1), ("feed c ; d", 0), ("feed d ; c", 1)):
            self.stands(desk, NoCatch, {"word": "name", "at": at}, row)
        self.stands(desk, Full, {"most": 2}, "feed d 1x3")
        self.stands(desk, NoWish, {"word": "line", "at": 1}, "watch not high c")
        self.stands(desk, NoWish, {"word": "number", "at": 0}, "watch held 0 yes")
        self.stands(desk, NoWish, {"word": "protocol", "at": 0}, "watch read 0 1 twowire c d")
        self.stands(desk, NoWish, {"word": "number", "at": 0}, "watch ago 1000000001 yes")
        self.stands(desk, NoStack, {"layer": 0, "word": "line"}, "stack twowire c d ; calls")
        for row, number in (("drop 2", 2), ("first 1", 1), ("when 1", 1), ("first 2", 2), ("when 1000000000", 1000000000)):
            self.stands(desk, NoWatch, {"number": number}, row)
        self.assertEqual(desk.say("watch yes"), "kept 2")

    def test_layers_that_are_not_there(self):
        desk = self.some_desk()
        for row in ("layer 0 9", "lead 0 9 9", "owner 0 9 x 9"):
            self.stands(desk, NoWatch, {"number": 0}, row)
        for row in ("layer 5 0", "lead 5 0 0", "owner 5 0 d 0"):
            self.stands(desk, NoWatch, {"number": 5}, row)
        for layer in (3, 4, 1000000000):
            for row in (f"layer 1 {layer}", f"lead 1 {layer} 0", f"lead 1 {layer} 99", f"owner 1 {layer} d 5", f"owner 1 {layer} x 5"):
                self.stands(desk, NoItem, {"layer": layer, "number": -1}, row)
        for layer, many in enumerate((14, 3, 1)):
            for number in (many, many + 1, 1000000000):
                self.stands(desk, NoItem, {"layer": layer, "number": number}, f"lead 1 {layer} {number}")
            desk.say(f"lead 1 {layer} {many - 1}")
        # What is open is not settled, and so no item to be led from.
        self.assertEqual(desk.say("layer 1 2"), "talk 2-401")

    def test_how_many_pieces(self):
        desk = Desk()
        desk.say("lines d")
        for at in range(PIECES):
            self.assertEqual(len(desk), at)
            desk.say("feed d")
        self.stands(desk, Full, {"most": 40}, "feed d")
        desk = Desk(most=0)
        desk.say("lines d")
        self.stands(desk, Full, {"most": 0}, "feed d")
        desk = Desk(most=41)
        desk.say("lines d")
        for _ in range(41):
            desk.say("feed d")
        self.stands(desk, Full, {"most": 41}, "feed d")


if __name__ == "__main__":
    unittest.main()
