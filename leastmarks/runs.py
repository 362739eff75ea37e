"""Runs of plans."""

from leastmarks.choices import check_choices
from leastmarks.machines import Machine
from leastmarks.states import refuse_faults


def begun(plan, choices):
    """The machine that begins a run; raises HasFaults, then NoChoices."""
    refuse_faults(plan)
    check_choices(choices)
    return Machine(plan, choices)


def run(plan, choices):
    """The log and the word of a run."""
    return begun(plan, choices).run()
