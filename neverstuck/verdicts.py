"""Verdicts: never stuck, stuck, or unsure, each with what shows it."""

from neverstuck.finding import paper_for
from neverstuck.stuckways import stuck_way
from neverstuck.textrings import text_ring


def verdict(program, town, most):
    paper = paper_for(program)
    if paper is not None:
        return ("never", paper)
    word, weaving = stuck_way(program, town, most)
    return ("stuck", weaving) if word == "way" else ("unsure", text_ring(program))
