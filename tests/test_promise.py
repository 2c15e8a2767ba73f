"""Point 3: what is promised over the whole program."""

import unittest

from neverstuck.finding import paper_for
from neverstuck.papers import faults, is_further
from neverstuck.rings import rings
from neverstuck.scenes import begun, waits
from neverstuck.steps import moves, stepped
from tests.helpers import crowded_program, crowded_town, papered_program, random_program, seeded


def wait_for_one_another(chance, program, scene):
    """A weaving's scenes, in which those hands step first that hold the least, so that many come to hold and wait."""
    yield scene
    for _ in range(60):
        able = moves(program, scene)
        if not able:
            return
        least = min(len(scene[hand][1]) for hand, _ in able)
        some = [move for move in able if len(scene[move[0]][1]) == least] if chance.random() < 0.7 else able
        scene, _ = stepped(program, scene, chance.choice(some))
        yield scene


class TestByAPaper(unittest.TestCase):
    """(a): whoever waits waits for locks further than all that it holds; no scene is stuck, and no ring is in one."""

    def check(self, chance, program, papers):
        waiting = 0
        town = crowded_town(chance, program)
        for scene in wait_for_one_another(chance, program, begun(program, town)):
            self.assertEqual(rings(program, scene), ())
            self.assertEqual(moves(program, scene) == (), all(frames == () for frames, held in scene))
            for hand, (frames, held) in enumerate(scene):
                wanted = waits(program, scene, hand)
                own = [lock for block in held for lock in block]
                waiting += bool(wanted and own)
                for paper in papers:
                    self.assertTrue(all(is_further(program, paper, lock, other) for lock in wanted for other in own))
        return waiting

    def test_programs_for_which_a_paper_is_found(self):
        found = waiting = 0
        for seed in range(300):
            chance = seeded(seed)
            program = random_program(chance) if seed % 3 else crowded_program(chance)
            paper = paper_for(program)
            if paper is not None:
                found += 1
                waiting += sum(self.check(chance, program, [paper]) for _ in range(4))
        self.assertGreater(found, 60)
        self.assertGreater(waiting, 20)

    def test_programs_built_from_a_paper(self):
        waiting = 0
        for seed in range(120):
            chance = seeded(seed)
            program, paper = papered_program(chance, 60, 2)
            self.assertEqual(faults(program, paper), ())
            waiting += sum(self.check(chance, program, [paper, paper_for(program)]) for _ in range(3))
        self.assertGreater(waiting, 100)


if __name__ == "__main__":
    unittest.main()
