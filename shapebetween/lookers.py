"""Lookers: papers of all kinds, looked at one by one."""

from shapebetween.errors import Comes, InvalidNumber, TooMany
from shapebetween.faultwords import ALIKE, CLASH, FORM
from shapebetween.forms import Form
from shapebetween.gates import gates_fault
from shapebetween.limits import is_number_tuple
from shapebetween.pricepapers import price_fault
from shapebetween.programs import Program
from shapebetween.runs import run_fault
from shapebetween.scripts import Script
from shapebetween.surroundings import fits_between
from shapebetween.tables import table_fault
from shapebetween.tornlogs import TornLog
from shapebetween.tornpapers import torn_fault


def run_paper_fault(script, shapes):
    """The fault of any values as a script and the shapes of its run."""
    if not isinstance(script, Script) or not isinstance(shapes, tuple):
        return FORM
    return run_fault(script, shapes)


def crosswise_paper_fault(script, clash):
    """The fault of any values as a script and a crosswise tuple."""
    if not isinstance(script, Script) or not is_number_tuple(clash, 4):
        return FORM
    return None if script.is_crosswise(clash) else CLASH


def table_paper_fault(program, table):
    """The fault of any values as a program and a table of it."""
    return table_fault(program, table) if isinstance(program, Program) else FORM


def price_paper_fault(wishes, most, paper):
    """The fault of any values as wishes, a number and a price paper for them."""
    if not isinstance(wishes, Script):
        return FORM
    try:
        return price_fault(wishes, most, paper)
    except (Comes, TooMany, InvalidNumber):
        return FORM


def torn_paper_fault(log, paper):
    """The fault of any values as a torn log and a torn paper for it."""
    return torn_fault(log, paper) if isinstance(log, TornLog) else FORM


def gates_paper_fault(wishes, gates):
    """The fault of any values as wishes and gates of them."""
    return gates_fault(wishes, gates) if isinstance(wishes, Script) else FORM


def parting_paper_fault(one, other, ahead, behind):
    """The fault of any values as two forms and the surroundings that part them."""
    if not isinstance(one, Form) or not isinstance(other, Form):
        return FORM
    if not isinstance(ahead, Script) or not isinstance(behind, Script):
        return FORM
    if not one.living == other.living == ahead.end == behind.living or not ahead.feasible or not behind.feasible:
        return FORM
    fits = fits_between(ahead.past, one, behind.future)
    return ALIKE if fits == fits_between(ahead.past, other, behind.future) else None


# For the first word of each kind of paper, how many values stand behind it, and what tells their fault.
SIZES = {"run": 2, "crosswise": 2, "table": 2, "price": 3, "torn": 2, "gates": 2, "parting": 4}
LOOKS = {
    "run": run_paper_fault,
    "crosswise": crosswise_paper_fault,
    "table": table_paper_fault,
    "price": price_paper_fault,
    "torn": torn_paper_fault,
    "gates": gates_paper_fault,
    "parting": parting_paper_fault,
}


class Looker:
    """Tells the faults of papers and counts them."""

    def __init__(self):
        self._found = []

    @property
    def held(self):
        """How many papers held."""
        return self._found.count(None)

    @property
    def refused(self):
        """How many papers did not hold."""
        return len(self._found) - self.held

    def look(self, paper):
        """The fault of any value as a paper, None if it holds."""
        fault = paper_fault(paper)
        self._found.append(fault)
        return fault

    def look_all(self, *papers):
        """The list of the faults of papers, in order."""
        return [self.look(paper) for paper in papers]

    def faults(self):
        """The dict from each fault that was found to the number of times."""
        return {fault: self._found.count(fault) for fault in self._found if fault is not None}

    def __len__(self):
        return len(self._found)

    def __bool__(self):
        return True

    def __repr__(self):
        return f"Looker({self.held} held, {self.refused} refused)"


def paper_fault(paper):
    """The fault of any value as a paper, None if it holds."""
    if not isinstance(paper, tuple) or not paper or not isinstance(paper[0], str) or paper[0] not in LOOKS:
        return FORM
    values = paper[1:]
    if len(values) != SIZES[paper[0]]:
        return FORM
    look = LOOKS[paper[0]]
    return look(*values)
