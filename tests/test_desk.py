"""Point 32: the desk."""

import unittest

from neverstuck.desk import Desk
from neverstuck.errors import NoLine, NoText
from neverstuck.finding import paper_for
from neverstuck.mending import mends
from neverstuck.pairs import pairs
from neverstuck.programs import comes_to_itself, is_program
from neverstuck.rings import rings
from neverstuck.scenes import begun, row_at
from neverstuck.steps import moves, stepped
from neverstuck.texts import show_program, show_weaving
from neverstuck.textrings import chain
from neverstuck.verdicts import verdict
from neverstuck.waysout import way_out
from tests.helpers import (A, B, Loud, anything, crowded_program, crowded_town, papered_program, program_of,
                           random_program, seeded)

EATERS = """locks fork
deed eat p q
say sit
within fork:p
within fork:q
say yum
end
end
end
deed rest
end"""

TWO = """locks a b c
deed go p
within a:p
within b:p-2
say x
end
end
ask c:0
within c:1
end
or
end
end
deed do p
within b:p
within a:p+2
end
end
end"""

OF_A_TOWN = ("go 0.0", "go 5.5", "back", "moves", "said", "stands 0", "holds 0", "rings", "verdict 1", "verdict 2000",
             "out")
LOOKS = ("moves", "said", "rings", "ranks", "pairs", "chain", "out", "text", "verdict 1", "verdict 2000", "mends 0",
         "mends 1", "mends 2", "stands 0", "holds 0", "stands 1", "holds 1")


class OnADesk(unittest.TestCase):
    def refused(self, desk, *lines):
        for line in lines:
            with self.assertRaises(NoLine) as caught:
                desk.say(line)
            self.assertIs(type(caught.exception), NoLine, line)

    def said(self, desk, *lines):
        """That each line is answered as it is told behind the arrow."""
        for line in lines:
            asked, told = line.split(" => ")
            self.assertEqual(desk.say(asked), told, asked)

    def all_looks(self, desk):
        """All that the desk tells without a change."""
        told = []
        for line in LOOKS:
            try:
                told.append(desk.say(line))
            except NoLine:
                told.append(None)
        return told


class TestDesk(OnADesk):
    def test_a_program_read(self):
        self.assertEqual(Desk(EATERS).say("text"), EATERS)
        self.assertEqual(Desk(text=TWO).say(line="text"), TWO)

    def test_refused_with_no_text(self):
        for thing in anything() + ["", EATERS + "\n", "locks a", EATERS.encode(), (("a",), (("go", (), ()),)), 0]:
            with self.assertRaises(NoText) as caught:
                Desk(thing)
            self.assertIs(type(caught.exception), NoText)

    def test_a_town_and_moves(self):
        self.said(Desk(EATERS), "town eat.1.2 eat.2.1 => ok", "moves => 0.0 1.0", "said => -", "stands 0 => 0",
                  "go 0.0 => 1", "said => 0:sit", "stands 0 => 1", "holds 0 => -", "go 0.0 1.0 1.0 => 3",
                  "said => 0:sit 1:sit", "holds 0 => fork:1", "holds 1 => fork:2", "moves => -", "stands 0 => 2",
                  "stands 1 => 2", "rings => 0:fork:2.1:fork:1", "out => -", "go 0.0 => 0", "back => ok",
                  "rings => -", "moves => 0.0 1.0", "holds 1 => -", "go 0.0 0.0 0.0 0.0 => 4", "stands 0 => -",
                  "said => 0:sit 1:sit 0:yum", "holds 0 => -", "moves => 1.0", "out => 1.0 1.0 1.0 1.0 1.0")

    def test_choices_as_moves(self):
        desk = Desk("locks a\ndeed go\neither\nor\nagain\nsay x\nend\nend\nend")
        self.said(desk, "town go => ok", "moves => 0.0 0.1", "go 0.1 => 1", "moves => 0.0 0.1",
                  "go 0.1 0.0 0.1 0.0 => 4", "said => 0:x 0:x", "out => 0.0", "go 0.0 => 1", "moves => -", "out => -",
                  "stands 0 => -")

    def test_go_stops_at_the_first_move_that_cant_be(self):
        desk = Desk(EATERS)
        self.said(desk, "town eat.1.2 rest => ok", "go 0.1 => 0", "go 1.0 => 0", "go 2.0 0.0 => 0",
                  "go 0.0 7.7 0.0 => 1", "said => 0:sit", "stands 0 => 1", "go 0.0 0.0 0.2 0.0 => 2", "stands 0 => 3",
                  "go 0.0 0.0 0.0 0.0 0.0 0.0 => 3", "stands 0 => -", "back => ok", "stands 0 => 1")
        many = "1" + "0" * 5000
        self.assertEqual(desk.say(f"go {many}.0"), "0")
        self.assertEqual(desk.say(f"go 0.0 0.{many}"), "1")

    def test_back(self):
        desk = Desk(EATERS)
        self.said(desk, "town eat.1.2 eat.2.1 => ok", "back => none", "back => none", "go 0.0 0.0 0.0 0.0 => 4",
                  "said => 0:sit 0:yum", "back => ok", "said => 0:sit", "holds 0 => fork:1 fork:2", "back => ok",
                  "holds 0 => fork:1", "back => ok", "said => 0:sit", "back => ok", "said => -", "back => none",
                  "go 1.0 0.9 => 1", "back => ok", "back => none", "moves => 0.0 1.0")

    def test_a_new_town_begins_anew(self):
        desk = Desk(EATERS)
        self.said(desk, "town eat.1.2 eat.2.1 => ok", "go 0.0 0.0 1.0 1.0 => 4", "town eat.3.3 => ok", "said => -",
                  "moves => 0.0", "back => none", "stands 0 => 0", "holds 0 => -", "rings => -")
        self.refused(desk, "stands 1", "holds 1")
        self.said(desk, "go 0.0 0.0 => 2", "town eat.3.3 => ok", "moves => 0.0", "said => -", "stands 0 => 0")

    def test_numbers_of_hands(self):
        desk = Desk(EATERS)
        self.said(desk, "town eat.-99.99 => ok", "go 0.0 0.0 0.0 => 3", "holds 0 => fork:-99 fork:99",
                  "town eat.-1.-3 rest eat.0.10 rest => ok", "go 0.0 0.0 0.0 2.0 2.0 2.0 => 6",
                  "holds 0 => fork:-3 fork:-1", "holds 2 => fork:0 fork:10", "holds 1 => -", "stands 1 => -",
                  "town eat.-2.-2 => ok", "go 0.0 0.0 => 2", "rings => 0:fork:-2")
        for hand in ("eat", "eat.1", "eat.1.2.3", "eat.1.100", "eat.-100.1", "eat.+1.1", "eat.-0.1", "eat.01.1",
                     "eat.1.", "eat..1", "eat.1.2.", ".1.2", "eat.a.b", "eat.p.q", "eat.1,2", "Eat.1.2", "sit.1.2",
                     "eat 1 2", "", "eat.1.--1", "eat.1.\u0661", "rest.", "rest.0", "rest.1", "eat.1.1_0",
                     "eat.1." + "9" * 5000,
                     "eat:1:2", "-", "eat.1.-"):
            self.refused(desk, f"town {hand}", f"town rest {hand}", f"town {hand} rest")

    def test_how_many_hands(self):
        desk = Desk(EATERS)
        self.refused(desk, "town", "town rest rest rest rest rest")
        self.said(desk, "town rest rest rest rest => ok", "moves => -", "stands 3 => -", "verdict 5 => unsure 2")

    def test_holds_rising_as_locks(self):
        rows = "within b:3\nwithin a:10\nall a:9 b:-5 c:0\nsay x\nend\nend\nend"
        self.said(Desk(f"locks a b c\ndeed go\n{rows}\nend"), "town go => ok", "go 0.0 0.0 0.0 => 3",
                  "holds 0 => a:9 a:10 b:-5 b:3 c:0")

    def test_several_rings(self):
        rows = "within a:p\nall a:0 a:1\nend\nend"
        self.said(Desk(f"locks a\ndeed go p\n{rows}\nend"), "town go.0 go.1 => ok", "go 0.0 1.0 => 2",
                  "rings => 0:a:0 0:a:1.1:a:0 1:a:1", "verdict 100 => stuck 0.0 1.0", "back => ok", "rings => 0:a:0")

    def test_verdicts(self):
        desk = Desk(EATERS)
        self.said(desk, "town eat.1.2 eat.2.1 => ok", "verdict 2000 => stuck 0.0 0.0 1.0 1.0", "verdict 1 => unsure 2",
                  "go 0.0 0.0 => 2", "verdict 2000 => stuck 0.0 0.0 1.0 1.0", "town eat.1.2 eat.1.2 => ok",
                  "verdict 2000 => unsure 2")
        desk = Desk("locks a b\ndeed go\nwithin a:0\nwithin b:0\nend\nend\nwithin b:0\nwithin a:0\nend\nend\nend")
        self.said(desk, "town go => ok", "verdict 2000 => unsure 1 3")
        desk = Desk("locks a\ndeed go p\nwithin a:p\ncall go p-1\nend\nend")
        self.said(desk, "town go.1 go.2 => ok", "verdict 1 => never", "verdict 2000 => never")

    def test_ranks(self):
        self.said(Desk(EATERS), "ranks => none")
        self.said(Desk(EATERS.replace("fork:q", "fork:p+1")), "ranks => fork:0:+")
        self.said(Desk(EATERS.replace("fork:q", "fork:p-1")), "ranks => fork:0:-")
        text = "locks a b c\ndeed go\nwithin c:0\nwithin a:5\nwithin a:4\nend\nwithin b:0\nend\nend\nend\nend"
        self.assertRegex(Desk(text).say("ranks"), r"^a:1:- b:2:[+-] c:0:[+-]$")

    def test_pairs_and_chain(self):
        self.said(Desk(EATERS), "pairs => 2:fork:fork", "chain => -")
        self.said(Desk(TWO), "pairs => 1:a:b 4:c:c 6:b:a", "chain => none")
        self.said(Desk("locks a b\ndeed go\nend"), "pairs => -", "chain => -")
        text = "locks a b c\ndeed go\nwithin c:0\nwithin a:5\nall a:6 b:4\nend\nend\nend\nend"
        self.said(Desk(text), "pairs => 1:c:a 2:a:a 2:a:b 2:c:a 2:c:b", "chain => c a b")

    def test_mends(self):
        self.said(Desk(EATERS), "mends 0 => none", "mends 1 => 2", "mends 2 => 2")
        self.said(Desk(TWO), "mends 0 => none", "mends 1 => 1", "mends 2 => 1")
        self.said(Desk("locks a\ndeed go\nend"), "mends 0 => -", "mends 1 => -", "mends 2 => -")
        text = "locks a\ndeed go\n" + "within a:0\nwithin a:0\nend\nend\n" * 2 + "end"
        self.said(Desk(text), "mends 0 => none", "mends 1 => none", "mends 2 => 1 3")

    def test_out(self):
        self.said(Desk(EATERS), "town rest => ok", "out => -", "town eat.1.2 rest => ok",
                  "out => 0.0 0.0 0.0 0.0 0.0 0.0", "go 0.0 0.0 0.0 => 3", "out => 0.0 0.0 0.0")
        desk = Desk("locks a\ndeed go\ncall do\nend\ndeed do\neither\ncall go\nor\nend\nend")
        self.refused(desk, "out")
        self.said(desk, "town do => ok", "out => comes", "go 0.1 => 1", "out => comes")

    def test_what_asks_a_scene_ahead_of_a_town(self):
        for text in (EATERS, TWO, "locks a\ndeed go\ncall go\nend"):
            desk = Desk(text)
            self.refused(desk, *OF_A_TOWN)
            self.refused(desk, "town", "town x", "town eat.1.2 x")
            self.refused(desk, *OF_A_TOWN)
            self.assertEqual(desk.say("text"), text)
            for line in ("ranks", "pairs", "chain", "mends 0", "mends 1", "mends 2"):
                self.assertIs(type(desk.say(line)), str)

    def test_lines_that_are_none_of_these(self):
        desk = Desk(EATERS)
        desk.say("town eat.1.2 eat.2.1")
        desk.say("go 0.0 1.0 0.0")
        kept = self.all_looks(desk)
        alone = ("back", "moves", "said", "rings", "ranks", "pairs", "chain", "out", "text")
        for word in alone + ("town", "go", "stands", "holds", "verdict", "mends"):
            self.refused(desk, word + " ", " " + word, word + "\n", word + "\t", word.upper(), word.title(),
                         word + "s x", word + "  0", word + " x", word + " -1", word + " 0x", word[:-1], word + word,
                         word + ".0")
            if word in alone:
                self.refused(desk, word + " 0", word + " 1", word + " 0.0")
            else:
                self.refused(desk, word)
        self.refused(desk, "", " ", "-", "0", "0.0", "hello", "say", "say x", "begun", "eat", "eat.1.2", "\n", "locks")
        self.assertEqual(self.all_looks(desk), kept)

    def test_numbers_in_lines(self):
        desk = Desk(EATERS)
        desk.say("town eat.1.2 eat.2.1")
        for word in ("stands", "holds"):
            for number in ("2", "3", "-1", "00", "01", "+0", "-0", "0.0", "0 1", "0 0", "a", "eat", "\u0660",
                           "9" * 5000):
                self.refused(desk, f"{word} {number}")
        for number in ("0", "2001", "10000", "-1", "01", "+1", "00", "1.0", "1 1", "x", "", "\u0661", "1_0",
                       "9" * 5000):
            self.refused(desk, f"verdict {number}")
        for number in ("3", "10", "-1", "00", "01", "+1", "-0", "0 1", "x", "", "\u0661", "9" * 5000):
            self.refused(desk, f"mends {number}")
        for number in (1, 2, 1999, 2000):
            self.assertIn(desk.say(f"verdict {number}").split(" ")[0], ("stuck", "unsure"))

    def test_moves_in_lines(self):
        desk = Desk(EATERS)
        desk.say("town eat.1.2 eat.2.1")
        kept = self.all_looks(desk)
        for text in ("", "0", "0.", ".0", "0.0.0", "0,0", "00.0", "0.00", "01.0", "-1.0", "0.-1", "-0.0", "+0.0", "a.0",
                     "0.a", "0. 0", "0.0 ", " 0.0", "0.0  0.0", "0.0\n", "0.0 0", "0.0 x", "0.0,1.0", "x", "0:0",
                     "\u0660.0"):
            self.refused(desk, f"go {text}", f"go 0.0 {text}", f"go {text} 0.0")
        self.assertEqual(self.all_looks(desk), kept)
        self.said(desk, "back => none")

    def test_things_that_are_no_texts(self):
        for lines in ((), ("town eat.1.2 eat.2.1", "go 0.0")):
            desk = Desk(EATERS)
            for line in lines:
                desk.say(line)
            kept = self.all_looks(desk)
            self.refused(desk, *anything(), 0, 1, -1, None, True, b"text", ["text"], ("text",), {"text": 1}, Loud())
            self.assertEqual(self.all_looks(desk), kept)

    def test_what_is_refused_or_only_looks_changes_nothing(self):
        desk = Desk(EATERS)
        self.said(desk, "town eat.1.2 eat.2.1 => ok", "go 0.0 0.0 1.0 => 3")
        kept = self.all_looks(desk)
        self.refused(desk, "town eat.1", "town eat.1.2 x", "town rest rest rest rest rest", "go 0.0 x", "go", "back 1",
                     "stands 2")
        self.assertEqual(self.all_looks(desk), kept)
        self.assertEqual(self.all_looks(desk), kept)
        self.said(desk, "back => ok", "back => ok", "back => ok", "back => none", "said => -", "moves => 0.0 1.0")

    def test_desks_beside_one_another(self):
        one, other = Desk(EATERS), Desk(EATERS)
        self.said(one, "town eat.1.2 => ok", "go 0.0 => 1")
        self.refused(other, "moves")
        self.said(other, "town rest => ok", "moves => -")
        self.said(one, "moves => 0.0", "said => 0:sit")


class TestDrawn(OnADesk):
    """The desk answers as all the others do."""

    def check(self, desk, program, town, scene, events, most):
        paper, names, ways = paper_for(program), chain(program), mends(program, most % 3)

        def tell(line, told):
            self.assertEqual(desk.say(line), told or "-", line)

        tell("text", show_program(program))
        tell("moves", show_weaving(moves(program, scene)))
        tell("said", " ".join(f"{hand}:{word}" for hand, word in events))
        for hand, (_, held) in enumerate(scene):
            number = row_at(program, scene, hand)
            tell(f"stands {hand}", "-" if number is None else str(number))
            locks = sorted(lock for block in held for lock in block)
            tell(f"holds {hand}", " ".join(f"{name}:{number}" for name, number in locks))
        tell("rings", " ".join(".".join(f"{hand}:{name}:{number}" for hand, (name, number) in ring)
                               for ring in rings(program, scene)))
        word, thing = verdict(program, town, most)
        rest = {"never": lambda: "", "stuck": lambda: " " + show_weaving(thing),
                "unsure": lambda: " " + " ".join(str(number) for number, _, _ in thing)}[word]()
        tell(f"verdict {most}", word + rest)
        tell("ranks", "none" if paper is None else " ".join(
            f"{name}:{layer}:{'-+'[side > 0]}" for name, (layer, side) in zip(program[0], paper[0])))
        tell("pairs", " ".join(f"{number}:{held}:{taken}" for number, held, taken in pairs(program)))
        links = [pair[1] for pair in (names or ())[:1]] + [pair[2] for pair in names or ()]
        tell("chain", "none" if names is None else " ".join(links))
        tell(f"mends {most % 3}", "none" if ways is None else " ".join(str(number) for number in ways))
        tell("out", "comes" if comes_to_itself(program) else show_weaving(way_out(program, scene)))
        return word

    def test_drawn_programs(self):
        met = set()
        for seed in range(90):
            chance = seeded(seed)
            program = (random_program, crowded_program, lambda x: papered_program(x, 30, 2)[0])[seed % 3](chance)
            if not is_program(program):
                continue
            desk, town = Desk(show_program(program)), crowded_town(chance, program)
            hands = [".".join([deed] + [str(number) for number in numbers]) for deed, numbers in town]
            self.assertEqual(desk.say("town " + " ".join(hands)), "ok")
            scenes, events = [begun(program, town)], []
            for _ in range(chance.randint(0, 12)):
                able = moves(program, scenes[-1])
                if able:
                    move = chance.choice(able)
                    self.assertEqual(desk.say("go " + show_weaving((move,))), "1")
                    scene, event = stepped(program, scenes[-1], move)
                    scenes.append(scene)
                    events.append(event)
                if chance.random() < 0.2:
                    self.assertEqual(desk.say("back"), "ok" if events else "none")
                    scenes, events = scenes[:max(1, len(scenes) - 1)], events[:-1]
            some = [event for event in events if event is not None]
            met.add(self.check(desk, program, town, scenes[-1], some, chance.choice((2, 100, 300))))
        self.assertEqual(met, {"never", "stuck", "unsure"})

    def test_crossed(self):
        others = [("do", (), (("within", B, (("within", A, ()),)),))]
        program = program_of(("within", A, (("within", B, ()),)), others=others)
        town = (("go", ()), ("do", ()))
        desk = Desk(show_program(program))
        desk.say("town go do")
        self.assertEqual(self.check(desk, program, town, begun(program, town), [], 100), "stuck")


if __name__ == "__main__":
    unittest.main()
