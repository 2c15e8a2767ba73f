"""The interface: names and arguments as they stand."""

import importlib
import inspect
import unittest

INTERFACE = {
    "terms": {"value_of": "term numbers", "put_in": "term terms"},
    "programs": {"is_program": "thing", "rows_of": "program", "calls_of": "program", "comes_to_itself": "program"},
    "facts": {"holds": "fact numbers", "follows": "facts fact", "fact_of": "one other more",
              "is_less": "facts one other more"},
    "reasons": {"reason": "facts fact"},
    "reasonlooks": {"shows_reason": "facts fact thing"},
    "scenes": {"begun": "program town", "held_by": "scene lock", "row_at": "program scene hand",
               "waits": "program scene hand"},
    "steps": {"moves": "program scene", "stepped": "program scene move", "walked": "program town weaving"},
    "resting": {"rests_of": "program scene most", "long_steps": "program scene most"},
    "books": {"book": "program town most", "resting_book": "program town most"},
    "stuckways": {"stuck_way": "program town most"},
    "booklooks": {"shows_book": "program town thing", "shows_stuck": "program town thing",
                  "shows_never": "program town thing"},
    "rings": {"rings": "program scene", "shows_ring": "program scene thing"},
    "losing": {"lost": "program scene most"},
    "pairs": {"known_at": "program number", "pairs": "program"},
    "textrings": {"text_ring": "program", "chain": "program"},
    "textlooks": {"shows_text_ring": "program thing", "shows_chain": "program thing"},
    "papers": {"is_paper": "program thing", "is_further": "program paper one other", "faults": "program paper",
               "shows_paper": "program thing"},
    "finding": {"paper_for": "program"},
    "verdicts": {"verdict": "program town most"},
    "verdictlooks": {"shows_verdict": "program town thing"},
    "waysout": {"way_out": "program scene", "shows_out": "program scene thing"},
    "changing": {"without_lock": "program number", "with_lock": "program number lock",
                 "old_number": "program number other"},
    "mending": {"asked_instead": "program some", "mends": "program most"},
    "texts": {"show_program": "program", "read_program": "text", "show_weaving": "weaving", "read_weaving": "text"},
    "desk": {"Desk": "text"},
}


class TestInterface(unittest.TestCase):
    def test_names_and_arguments(self):
        for file, defs in INTERFACE.items():
            module = importlib.import_module(f"neverstuck.{file}")
            for name, arguments in defs.items():
                told = inspect.signature(getattr(module, name)).parameters.values()
                self.assertEqual([one.name for one in told], arguments.split(), name)
                for one in told:
                    self.assertEqual(one.kind, inspect.Parameter.POSITIONAL_OR_KEYWORD, name)
                    self.assertIs(one.default, inspect.Parameter.empty, name)

    def test_the_desk_says(self):
        told = inspect.signature(importlib.import_module("neverstuck.desk").Desk.say).parameters.values()
        self.assertEqual([one.name for one in told][1:], ["line"])


if __name__ == "__main__":
    unittest.main()
