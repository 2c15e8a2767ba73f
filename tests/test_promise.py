"""Point 3: what is promised over the whole program."""

import unittest

from neverstuck.changing import old_number, with_lock, without_lock
from neverstuck.errors import NoRow
from neverstuck.finding import paper_for
from neverstuck.papers import faults, is_further
from neverstuck.programs import comes_to_itself, lots_of, rows_of
from neverstuck.rings import rings
from neverstuck.scenes import begun, waits
from neverstuck.steps import moves, stepped
from neverstuck.waysout import shows_out, way_out
from tests.helpers import (crowded_program, crowded_town, drawn_paper, papered_program, random_lock, random_program,
                           seeded)


def wait_for_one_another(chance, program, scene):
    """A weaving's scenes, in which those hands step first that hold the least, so that many come to hold and wait."""
    yield scene
    for _ in range(60):
        able = moves(program, scene)
        if not able:
            return
        least = min(len(scene[hand][1]) for hand, _ in able)
        some = [move for move in able if len(scene[move[0]][1]) == least] if chance.random() < 0.7 else able
        scene, _ = stepped(program, scene, chance.choice(some))
        yield scene


class TestByAPaper(unittest.TestCase):
    """(a): whoever waits waits for locks further than all that it holds; no scene is stuck, and no ring is in one."""

    def check(self, chance, program, papers):
        waiting = 0
        town = crowded_town(chance, program)
        for scene in wait_for_one_another(chance, program, begun(program, town)):
            self.assertEqual(rings(program, scene), ())
            self.assertEqual(moves(program, scene) == (), all(frames == () for frames, held in scene))
            for hand, (frames, held) in enumerate(scene):
                wanted = waits(program, scene, hand)
                own = [lock for block in held for lock in block]
                waiting += bool(wanted and own)
                for paper in papers:
                    self.assertTrue(all(is_further(program, paper, lock, other) for lock in wanted for other in own))
        return waiting

    def test_programs_for_which_a_paper_is_found(self):
        found = waiting = 0
        for seed in range(300):
            chance = seeded(seed)
            program = random_program(chance) if seed % 3 else crowded_program(chance)
            paper = paper_for(program)
            if paper is not None:
                found += 1
                waiting += sum(self.check(chance, program, [paper]) for _ in range(4))
        self.assertGreater(found, 60)
        self.assertGreater(waiting, 20)

    def test_programs_built_from_a_paper(self):
        waiting = 0
        for seed in range(120):
            chance = seeded(seed)
            program, paper = papered_program(chance, 60, 2)
            self.assertEqual(faults(program, paper), ())
            waiting += sum(self.check(chance, program, [paper, paper_for(program)]) for _ in range(3))
        self.assertGreater(waiting, 100)


class TestWaysOut(unittest.TestCase):
    """(b): by a paper, and where no deed comes to itself, a told weaving leads to where all are done."""

    def test_drawn_programs_with_a_paper(self):
        held_on = 0
        for seed in range(150):
            chance = seeded(seed)
            program = papered_program(chance, 50, 2, forward=True)[0] if seed % 3 else random_program(chance)
            if comes_to_itself(program) or paper_for(program) is None:
                continue
            for scene in wait_for_one_another(chance, program, begun(program, crowded_town(chance, program))):
                self.assertIs(shows_out(program, scene, way_out(program, scene)), True)
                held_on += any(held and waits(program, scene, hand) for hand, (_, held) in enumerate(scene))
        self.assertGreater(held_on, 15)


def many_in(row):
    """How many rows stand in a row, itself too."""
    return 1 + sum(many_in(inner) for lot in lots_of(row) for inner in lot)


class TestChanges(unittest.TestCase):
    """(g): what a lock taken out or put in does to the faults by the same paper."""

    def drawn(self):
        for seed in range(150):
            chance = seeded(seed)
            if seed % 3 == 0:
                yield (chance, *papered_program(chance, 50, 2))
            else:
                program = (random_program, crowded_program)[seed % 2](chance)
                heads = [(deed, params) for deed, params, _ in program[1]]
                yield chance, program, drawn_paper(chance, program[0], heads, 2)

    def test_a_lock_taken_out_leaves_no_fault_that_wasnt_there(self):
        fewer = 0
        for _, program, paper in self.drawn():
            ahead = faults(program, paper)
            for number, (_, row) in enumerate(rows_of(program)):
                if row[0] in ("within", "all", "ask"):
                    behind = faults(without_lock(program, number), paper)
                    old = [(old_number(program, number, other), word) for other, word in behind]
                    self.assertLessEqual(set(old), set(ahead))
                    fewer += len(old) < len(ahead)
        self.assertGreater(fewer, 100)

    def test_a_lock_put_in_brings_faults_at_its_row_and_in_it_alone(self):
        more = 0
        for chance, program, paper in self.drawn():
            ahead = faults(program, paper)
            for number, (deed, row) in enumerate(rows_of(program)):
                name, term = random_lock(chance, program[1][deed][1])
                try:
                    other = with_lock(program, number, (name if name in program[0] else "a", term))
                except NoRow:
                    continue
                inside = range(number, number + 1 + many_in(row))
                behind = faults(other, paper)
                outside = [(one - (one > number), word) for one, word in behind if one not in inside]
                own = range(number, number + many_in(row))
                self.assertEqual(outside, [(one, word) for one, word in ahead if one not in own])
                # What was a fault in it is one still.
                kept = {(one + 1, word) for one, word in ahead if one in own}
                self.assertLessEqual(kept, set(behind))
                more += len(behind) > len(ahead)
        self.assertGreater(more, 100)


if __name__ == "__main__":
    unittest.main()
