"""A desk: a ward that is asked and edited by lines of text."""

from muffline.errors import BadLine, UnknownName
from muffline.forms import is_name
from muffline.judge import MOST_CASES, least_break
from muffline.runs import schedule_of
from muffline.texts import number_of, read_line, read_world, term_of, write_world
from muffline.ward import Ward


class Desk:
    """A ward that is read from a text, and that answers lines."""

    def __init__(self, text):
        world, claims = read_world(text)
        self._ward = Ward(world, claims, MOST_CASES)

    def answer(self, line):
        """Do what a line says and return the answer."""
        kind, *words = line.split(" ")
        if line == "world":
            return write_world(self._ward.world, self._ward.claims)
        if line == "undo":
            self._ward.undo()
            return "undone"
        if kind in ("judge", "least"):
            return self._judged(kind, words)
        self._edit(line, kind, words)
        return "done"

    def _judged(self, kind, words):
        number = number_of(words[0]) if len(words) == 1 else None
        if number is None:
            raise BadLine(1)
        run = self._verdict_run(number) if kind == "judge" else self._least_run(number)
        if run is None:
            return "keeps"
        return " ".join(["breaks", *[str(session) for session in schedule_of(run)]])

    def _verdict_run(self, number):
        """Return the run of the ward's verdict, or None for a paper."""
        kind, evidence, _ = self._ward.verdict(number)
        return evidence if kind == "run" else None

    def _least_run(self, number):
        if number >= len(self._ward.claims):
            raise UnknownName()
        return least_break(self._ward.world, self._ward.claims[number], limit=MOST_CASES)

    def _edit(self, line, kind, words):
        """Do the edit that a line says."""
        if line == "drop":
            self._ward.drop_session()
        elif kind == "step":
            self._change_step(words)
        elif kind in ("good", "session"):
            item = read_line(line)
            if item is None:
                raise BadLine(1)
            if kind == "good":
                self._ward.set_good(item)
            else:
                self._ward.add_session(item)
        else:
            raise BadLine(1)

    def _change_step(self, words):
        step = number_of(words[1]) if len(words) > 2 and is_name(words[0]) else None
        term = term_of(words[2:])
        if step is None or term is None:
            raise BadLine(1)
        self._ward.change_step(words[0], step, term)
