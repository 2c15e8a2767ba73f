"""Points 12 to 14 and 3 (a), (c), (d): steps, moves and weavings."""

import copy
import unittest

from neverstuck.errors import NoStep, StuckError
from neverstuck.scenes import begun, held_by, row_at, waits
from neverstuck.steps import moves, stepped, walked
from tests.helpers import (A, B, NAMES, SAY, Loud, anything, go, is_quiet, program_of, random_program, random_town,
                           scenes_from, seeded)


def one_hand(path, held=()):
    return ((((0, (), path),), held),)


DONE = (((), ()),)


class TestStepped(unittest.TestCase):
    def check(self, program, scene, move, told, event=None):
        self.assertEqual(stepped(program, scene, move), (told, event))
        self.assertIn(move, moves(program, scene))

    def test_say(self):
        program = program_of(("say", "hello"), SAY)
        self.check(program, begun(program, go()), (0, 0), one_hand((1,)), (0, "hello"))
        two = begun(program, go(2))
        self.check(program, two, (1, 0), (two[0],) + one_hand((1,)), (1, "hello"))
        self.check(program, one_hand((1,)), (0, 0), DONE, (0, "x"))

    def test_call(self):
        terms = (("q", 1), ("", -99), ("p", 99))
        program = (NAMES, (("go", ("p", "q"), (("call", "do", terms), SAY)), ("do", ("r", "p", "q"), (SAY,))))
        scene = begun(program, (("go", (99, 5)),))
        caller = (0, (99, 5), (0,))
        self.check(program, scene, (0, 0), (((caller, (1, (6, -99, 198), (0,))), ()),))

    def test_call_of_itself_beyond_the_bounds_of_numbers(self):
        program = (NAMES, (("go", ("p",), (("call", "go", (("p", 99),)),)),))
        scene, events = walked(program, (("go", (99,)),), ((0, 0),) * 3)
        self.assertEqual([frame[1] for frame in scene[0][0]], [(99,), (198,), (297,), (396,)])
        self.assertEqual([frame[2] for frame in scene[0][0]], [(0,)] * 4)

    def test_call_keeps_what_is_held(self):
        program = program_of(("within", A, (("call", "do", ()),)), others=(("do", (), (("within", B, ()),)),))
        scene, _ = walked(program, go(), ((0, 0),) * 3)
        self.assertEqual(scene, ((((0, (), (0, 0, 0)), (1, (), (0, 0, 0))), ((("a", 0),), (("b", 0),))),))
        scene, _ = walked(program, go(), ((0, 0),) * 4)
        self.assertEqual(scene, one_hand((0, 0, 1), ((("a", 0),),)))

    def test_by_three_ways(self):
        row = ("by", ("p", 1), ("q", 0), (SAY,), (SAY,), (SAY,))
        program = (NAMES, (("go", ("p", "q"), (row,)),))
        for numbers, lot in (((0, 2), 0), ((1, 2), 1), ((2, 2), 2), ((-99, 99), 0), ((99, -99), 2)):
            scene = begun(program, (("go", numbers),))
            self.check(program, scene, (0, 0), ((((0, numbers, (0, lot, 0)),), ()),))

    def test_either(self):
        program = program_of(("either", (SAY, SAY), (SAY,)), SAY)
        scene = begun(program, go())
        self.check(program, scene, (0, 0), one_hand((0, 0, 0)))
        self.check(program, scene, (0, 1), one_hand((0, 1, 0)))

    def test_again(self):
        program = program_of(("again", (SAY,)), SAY)
        scene = begun(program, go())
        self.check(program, scene, (0, 1), one_hand((0, 0, 0)))
        self.check(program, scene, (0, 0), one_hand((1,)))

    def test_again_of_an_empty_lot_leads_to_the_same_scene(self):
        program = program_of(("again", ()))
        scene = begun(program, go())
        self.check(program, scene, (0, 1), scene)
        self.check(program, scene, (0, 0), DONE)

    def test_within_of_a_free_lock(self):
        program = (NAMES, (("go", ("p",), (("within", ("b", ("p", -1)), (SAY,)),)),))
        scene = begun(program, (("go", (-99,)),))
        self.check(program, scene, (0, 0), ((((0, (-99,), (0, 0, 0)),), ((("b", -100),),)),))

    def test_within_of_a_held_lock(self):
        program = program_of(("within", A, (("within", A, ()),)))
        scene, _ = walked(program, go(2), ((0, 0),))
        for move in ((0, 0), (1, 0), (0, 1), (1, 1)):
            with self.assertRaises(NoStep):
                stepped(program, scene, move)
        self.assertEqual(moves(program, scene), ())

    def test_within_of_the_same_name_and_another_number(self):
        program = (NAMES, (("go", ("p",), (("within", ("a", ("p", 0)), ()),)),))
        scene, _ = walked(program, (("go", (1,)), ("go", (2,))), ((0, 0), (1, 0)))
        self.assertEqual([held for frames, held in scene], [((("a", 1),),), ((("a", 2),),)])

    def test_all_of_free_locks(self):
        row = ("all", (("b", ("", 1)), ("a", ("", 9)), ("b", ("", -1)), ("a", ("", 2))), (SAY,))
        program = program_of(row)
        block = (("a", 2), ("a", 9), ("b", -1), ("b", 1))
        self.check(program, begun(program, go()), (0, 0), one_hand((0, 0, 0), (block,)))

    def test_all_of_a_held_lock_takes_none(self):
        others = (("do", (), (("within", B, (SAY,)),)),)
        program = program_of(("all", (A, B), (SAY,)), others=others)
        town = (("go", ()), ("do", ()))
        scene, _ = walked(program, town, ((1, 0),))
        self.assertEqual(moves(program, scene), ((1, 0),))
        with self.assertRaises(NoStep):
            stepped(program, scene, (0, 0))
        self.assertEqual(scene[0][1], ())
        scene, _ = walked(program, town, ((1, 0), (1, 0), (1, 0), (0, 0)))
        self.assertEqual(scene[0][1], ((("a", 0), ("b", 0)),))

    def test_all_of_a_lock_held_by_itself(self):
        program = program_of(("within", B, (("all", (A, B), ()),)))
        scene, _ = walked(program, go(), ((0, 0),))
        self.assertEqual(moves(program, scene), ())

    def test_a_lock_told_twice_by_its_numbers_is_taken_once(self):
        row = ("all", (("a", ("p", 0)), ("a", ("q", 0)), ("b", ("p", 0))), (SAY,))
        program = (NAMES, (("go", ("p", "q"), (row,)),))
        scene = begun(program, (("go", (3, 3)),))
        told, event = stepped(program, scene, (0, 0))
        self.assertEqual(told, ((((0, (3, 3), (0, 0, 0)),), ((("a", 3), ("b", 3)),)),))
        scene, _ = walked(program, (("go", (3, 3)),), ((0, 0),) * 3)
        self.assertEqual(scene, DONE)

    def test_ask_of_a_free_lock(self):
        program = program_of(("ask", A, (SAY,), (SAY, SAY)))
        self.check(program, begun(program, go()), (0, 0), one_hand((0, 0, 0), ((("a", 0),),)))

    def test_ask_of_a_lock_held_by_another(self):
        program = program_of(("ask", A, (SAY,), (SAY, SAY)))
        scene, _ = walked(program, go(2), ((0, 0),))
        self.check(program, scene, (1, 0), (scene[0], (((0, (), (0, 1, 0)),), ())))

    def test_ask_of_a_lock_held_by_itself(self):
        program = program_of(("within", A, (("ask", A, (SAY,), (SAY, SAY)),)))
        scene, _ = walked(program, go(), ((0, 0),))
        self.check(program, scene, (0, 0), one_hand((0, 0, 0, 1, 0), ((("a", 0),),)))

    def test_freeing_at_an_end(self):
        for row in (("within", A, (SAY,)), ("all", (A, B), (SAY,)), ("ask", A, (SAY,), ())):
            program = program_of(("within", ("c", ("", 7)), (row, SAY)))
            scene, _ = walked(program, go(), ((0, 0),) * 3)
            self.assertEqual(held_by(scene, ("a", 0)), 0)
            self.check(program, scene, (0, 0), one_hand((0, 0, 1), ((("c", 7),),)))

    def test_a_lock_freed_can_be_taken_by_another(self):
        program = program_of(("within", A, ()))
        scene, _ = walked(program, go(2), ((0, 0), (0, 0)))
        self.assertEqual(moves(program, scene), ((1, 0),))

    def test_the_other_hands_stay(self):
        program = program_of(SAY, SAY)
        scene = begun(program, go(4))
        for hand in range(4):
            told, event = stepped(program, scene, (hand, 0))
            self.assertEqual(told, scene[:hand] + one_hand((1,)) + scene[hand + 1:])
            self.assertEqual(event, (hand, "x"))

    def test_by_names_and_nothing_changed(self):
        program = program_of(("within", A, (SAY,)))
        scene = begun(program, go())
        kept = copy.deepcopy((program, scene))
        self.assertEqual(stepped(program=program, scene=scene, move=(0, 0)), stepped(program, scene, (0, 0)))
        self.assertEqual((program, scene), kept)
        told = stepped(program, scene, (0, 0))
        self.assertIs(type(told), tuple)

    def test_refused_at_place_0(self):
        program = program_of(("either", (SAY,), ()), SAY)
        scene = begun(program, go(2))
        for move in ((2, 0), (-1, 0), (0, 2), (0, -1), (10 ** 30, 0), (0, 10 ** 30), (0, 0, 0), (0,), (), [0, 0],
                     (True, 0), (False, 0), (0, True), (0, False), ("0", 0), (0, None), 0, "00", b"\x00\x00", {0: 0},
                     ((0, 0),), (Loud(), 0), (0, Loud()), range(2)):
            with self.assertRaises(NoStep) as caught:
                stepped(program, scene, move)
            self.assertEqual(caught.exception.place, 0)
            self.assertIsInstance(caught.exception, StuckError)

    def test_refused_of_things_of_any_kind(self):
        program = program_of(("either", (SAY,), ()), SAY)
        scene = begun(program, go(2))
        for thing in anything():
            for move in (thing, (thing, 0), (0, thing), (0, 0, thing), (thing, thing)):
                with self.assertRaises(NoStep) as caught:
                    stepped(program, scene, move)
                self.assertEqual(caught.exception.place, 0)

    def test_choice_1_is_for_either_and_again_alone(self):
        others = (("do", (), (SAY,)),)
        for row in (SAY, ("call", "do", ()), ("within", A, ()), ("all", (A, B), ()), ("ask", A, (), ()),
                    ("by", ("", 0), ("", 0), (), (), ())):
            program = program_of(row, others=others)
            scene = begun(program, go())
            self.assertEqual(moves(program, scene), ((0, 0),))
            with self.assertRaises(NoStep):
                stepped(program, scene, (0, 1))
        for row in (("within", A, ()), ("all", (A, B), ()), ("ask", A, (), ())):
            program = program_of(row)
            scene, _ = walked(program, go(), ((0, 0),))
            self.assertEqual(moves(program, scene), ((0, 0),))
            with self.assertRaises(NoStep):
                stepped(program, scene, (0, 1))

    def test_refused_of_one_that_is_done(self):
        program = program_of()
        for move in ((0, 0), (0, 1)):
            with self.assertRaises(NoStep):
                stepped(program, begun(program, go()), move)


class TestMoves(unittest.TestCase):
    def test_rising_and_all(self):
        others = (("do", (), (SAY,)), ("no", (), ()), ("on", (), (("again", ()),)))
        program = program_of(("either", (), ()), others=others)
        town = (("on", ()), ("no", ()), ("go", ()), ("do", ()))
        self.assertEqual(moves(program, begun(program, town)), ((0, 0), (0, 1), (2, 0), (2, 1), (3, 0)))
        scene = begun(program, town)
        self.assertEqual(moves(program=program, scene=scene), moves(program, scene))

    def test_none_where_all_are_done(self):
        program = program_of()
        self.assertEqual(moves(program, begun(program, go(3))), ())

    def test_none_where_all_wait(self):
        rows = (("within", A, (("within", B, ()),)), ("within", B, (("within", A, ()),)))
        program = (NAMES, (("go", (), rows[:1]), ("do", (), rows[1:])))
        scene, _ = walked(program, (("go", ()), ("do", ())), ((0, 0), (1, 0)))
        self.assertEqual(moves(program, scene), ())
        self.assertEqual([waits(program, scene, hand) for hand in range(2)], [(("b", 0),), (("a", 0),)])

    def test_just_those_that_arent_refused(self):
        for number in range(60):
            chance = seeded(number)
            program = random_program(chance)
            scene = begun(program, random_town(chance, program))
            for _ in range(15):
                able = moves(program, scene)
                self.assertEqual(able, tuple(sorted(set(able))))
                for move in [(hand, choice) for hand in range(-1, 5) for choice in range(-1, 3)]:
                    if move in able:
                        stepped(program, scene, move)
                    else:
                        with self.assertRaises(NoStep):
                            stepped(program, scene, move)
                if not able:
                    break
                scene, _ = stepped(program, scene, chance.choice(able))


class TestWalked(unittest.TestCase):
    program = program_of(SAY, ("within", A, (("say", "y"),)), ("say", "z"))

    def test_of_none(self):
        self.assertEqual(walked(self.program, go(2), ()), (begun(self.program, go(2)), ()))

    def test_with_events(self):
        weaving = ((1, 0), (0, 0), (1, 0), (1, 0), (1, 0), (1, 0), (0, 0), (0, 0))
        scene, events = walked(self.program, go(2), weaving)
        self.assertEqual(events, ((1, "x"), (0, "x"), (1, "y"), (1, "z"), (0, "y")))
        self.assertEqual(scene, one_hand((1, 0, 1), ((("a", 0),),)) + DONE)

    def test_without_events(self):
        program = program_of(("again", (("within", A, ()),)))
        scene, events = walked(program, go(), ((0, 1), (0, 0), (0, 0), (0, 0)))
        self.assertEqual((scene, events), (DONE, ()))

    def test_by_names_and_again(self):
        told = walked(program=self.program, town=go(), weaving=((0, 0),))
        self.assertEqual(told, walked(self.program, go(), ((0, 0),)))
        self.assertIs(type(told[1]), tuple)

    def test_refused_with_the_place_of_the_first(self):
        right = ((0, 0), (0, 0), (1, 0), (0, 0))
        walked(self.program, go(2), right)
        for place in range(5):
            for wrong in ((0, 1), (2, 0), (-1, 0), [0, 0], (False, 0), (0, False), None, "0.0", (), (0, 0, 0), Loud()):
                for behind in ((), (None,), ((0, 1), (7, 7))):
                    with self.assertRaises(NoStep) as caught:
                        walked(self.program, go(2), right[:place] + (wrong,) + behind)
                    self.assertEqual(caught.exception.place, place)

    def test_refused_where_it_waits(self):
        with self.assertRaises(NoStep) as caught:
            walked(self.program, go(2), ((0, 0), (1, 0), (0, 0), (1, 0), (0, 0)))
        self.assertEqual(caught.exception.place, 3)

    def test_refused_once_it_is_done(self):
        with self.assertRaises(NoStep) as caught:
            walked(self.program, go(), ((0, 0),) * 6)
        self.assertEqual(caught.exception.place, 5)

    def test_of_things_of_any_kind_as_moves(self):
        for thing in anything():
            with self.assertRaises(NoStep) as caught:
                walked(self.program, go(), ((0, 0), thing))
            self.assertEqual(caught.exception.place, 1)


class Model:
    """Hands as heaps of what is still to do: another way to say points 10 to 12."""

    def __init__(self, program, town):
        self.program = program
        self.count = 0
        self.deeds = [self.marked(rows, ()) for name, params, rows in program[1]]
        self.names = [name for name, params, rows in program[1]]
        self.hands = [self.begin(deed, numbers) for deed, numbers in town]
        self.held = [[] for _ in town]
        for todo in self.hands:
            self.leave(todo)

    def marked(self, lot, ahead):
        nodes = []
        for at, row in enumerate(lot):
            node = {"row": row, "number": self.count, "path": ahead + (at,)}
            self.count += 1
            first = {"say": 2, "call": 3, "by": 3, "either": 1, "again": 1}.get(row[0], 2)
            node["lots"] = [self.marked(inner, ahead + (at, way)) for way, inner in enumerate(row[first:])]
            nodes.append(node)
        return nodes

    def begin(self, name, numbers):
        deed = self.names.index(name)
        env = dict(zip(self.program[1][deed][1], numbers))
        frame = {"deed": deed, "numbers": numbers, "called": None}
        return [("leave", frame, env)] + self.doing(self.deeds[deed], env)

    def doing(self, nodes, env):
        return [("do", node, env) for node in reversed(nodes)]

    def leave(self, todo):
        while todo and todo[-1][0] == "leave":
            todo.pop()

    def term(self, term, env):
        return env.get(term[0], 0) + term[1]

    def locks(self, node, env):
        told = node["row"][1] if node["row"][0] == "all" else [node["row"][1]]
        return {(name, self.term(term, env)) for name, term in told}

    def all_held(self):
        return {lock for held in self.held for block in held for lock in block}

    def waiting(self, hand):
        todo = self.hands[hand]
        if not todo or todo[-1][0] != "do" or todo[-1][1]["row"][0] not in ("within", "all"):
            return set()
        return self.locks(*todo[-1][1:]) & self.all_held()

    def able(self):
        found = []
        for hand, todo in enumerate(self.hands):
            if todo and not self.waiting(hand):
                found.append((hand, 0))
                if todo[-1][0] == "do" and todo[-1][1]["row"][0] in ("either", "again"):
                    found.append((hand, 1))
        return tuple(found)

    def step(self, hand, choice):
        todo = self.hands[hand]
        kind, node, env = todo.pop()
        event = None
        if kind == "free":
            self.held[hand].pop()
        else:
            event = getattr(self, "do_" + node["row"][0])(hand, todo, node, env, choice)
        self.leave(todo)
        return event

    def do_say(self, hand, todo, node, env, choice):
        return (hand, node["row"][1])

    def do_call(self, hand, todo, node, env, choice):
        items = self.begin(node["row"][1], tuple(self.term(term, env) for term in node["row"][2]))
        items[0][1]["called"] = node["path"]
        todo.extend(items)

    def do_either(self, hand, todo, node, env, choice):
        todo.extend(self.doing(node["lots"][choice], env))

    def do_again(self, hand, todo, node, env, choice):
        if choice:
            todo.append(("do", node, env))
            todo.extend(self.doing(node["lots"][0], env))

    def do_by(self, hand, todo, node, env, choice):
        one, other = self.term(node["row"][1], env), self.term(node["row"][2], env)
        todo.extend(self.doing(node["lots"][(one >= other) + (one > other)], env))

    def do_within(self, hand, todo, node, env, choice):
        self.held[hand].append(tuple(sorted(self.locks(node, env))))
        todo.append(("free", node, env))
        todo.extend(self.doing(node["lots"][0], env))

    do_all = do_within

    def do_ask(self, hand, todo, node, env, choice):
        if self.locks(node, env) & self.all_held():
            todo.extend(self.doing(node["lots"][1], env))
        else:
            self.do_within(hand, todo, node, env, choice)

    def scene(self):
        told = []
        for todo, held in zip(self.hands, self.held):
            frames = [item[1] for item in todo if item[0] == "leave"]
            paths = [frame["called"] for frame in frames[1:]]
            if todo:
                kind, node, env = todo[-1]
                paths.append(node["path"] if kind == "do" else node["path"] + (0, len(node["lots"][0])))
            told.append((tuple((frame["deed"], frame["numbers"], path) for frame, path in zip(frames, paths)),
                         tuple(held)))
        return tuple(told)

    def row(self, hand):
        return self.hands[hand][-1][1]["number"] if self.hands[hand] else None


class TestAgainstTheModel(unittest.TestCase):
    def test_weavings_by_chance(self):
        steps = 0
        for number in range(400):
            chance = seeded(number)
            program = random_program(chance)
            town = random_town(chance, program)
            model = Model(program, town)
            scene = begun(program, town)
            weaving, events = [], []
            for _ in range(40):
                self.same(program, scene, model)
                able = moves(program, scene)
                if not able:
                    break
                move = chance.choice(able)
                scene, event = stepped(program, scene, move)
                self.assertEqual(event, model.step(*move))
                weaving.append(move)
                events.extend([event] if event else [])
                steps += 1
            self.assertEqual(walked(program, town, tuple(weaving)), (scene, tuple(events)))
        self.assertGreater(steps, 5000)

    def same(self, program, scene, model):
        self.assertEqual(scene, model.scene())
        self.assertEqual(moves(program, scene), model.able())
        held = model.all_held()
        for hand in range(len(scene)):
            self.assertEqual(row_at(program, scene, hand), model.row(hand))
            self.assertEqual(waits(program, scene, hand), tuple(sorted(model.waiting(hand))))
            for block in scene[hand][1]:
                self.assertEqual([held_by(scene, lock) for lock in block], [hand] * len(block))
        self.assertEqual(len(held), sum(len(block) for frames, some in scene for block in some))


class TestTheWhole(unittest.TestCase):
    def test_a_quiet_hand_steps_whatever_the_others_do(self):
        # So resting scenes come by long steps: what a quiet hand does changes no lock, and no lock changes it.
        checked = 0
        for number in range(150):
            chance = seeded(number)
            program = random_program(chance)
            scene = begun(program, random_town(chance, program))
            for _ in range(25):
                able = moves(program, scene)
                if not able:
                    break
                for quiet in [move for move in able if is_quiet(program, scene, move[0])]:
                    behind, _ = stepped(program, scene, quiet)
                    self.assertEqual([held for frames, held in behind], [held for frames, held in scene])
                    for other in able:
                        if other[0] != quiet[0]:
                            one, _ = stepped(program, behind, other)
                            two, _ = stepped(program, stepped(program, scene, other)[0], quiet)
                            self.assertEqual(one, two)
                            checked += 1
                scene, _ = stepped(program, scene, chance.choice(able))
        self.assertGreater(checked, 500)

    def test_who_waits_in_a_ring_never_steps_again(self):
        others = (("do", (), (("within", B, (("within", A, ()),)),)), ("on", (), (("again", (("ask", A, (), ()),)),)))
        program = program_of(("within", A, (("within", B, ()),)), others=others)
        scene, _ = walked(program, (("go", ()), ("do", ()), ("on", ())), ((0, 0), (1, 0)))
        for here in scenes_from(program, scene, 100):
            self.assertEqual({hand for hand, choice in moves(program, here)} - {2}, set())

    def test_takings_that_rise_are_never_stuck(self):
        # Each waits for what is further than all it holds, so whatever the weaving, all come to be done.
        row = ("by", ("p", 0), ("q", 0), (("within", ("a", ("p", 0)), (("within", ("a", ("q", 0)), ()),)),), (), ())
        program = (NAMES, (("go", ("p", "q"), (row,)),))
        town = (("go", (1, 2)), ("go", (2, 3)), ("go", (1, 3)), ("go", (3, 1)))
        seen = scenes_from(program, begun(program, town), 1000)
        for scene in seen:
            self.assertTrue(moves(program, scene) or all(not frames for frames, held in scene))
            for hand, (frames, held) in enumerate(scene):
                for lock in waits(program, scene, hand):
                    self.assertTrue(all(lock > other for block in held for other in block))
        self.assertGreater(len(seen), 50)


if __name__ == "__main__":
    unittest.main()
