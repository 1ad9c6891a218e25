"""The log of a machine: the views of all of its events."""

from tapline.machine import Machine


def log_of(programs, rates, picks):
    """The list of all views of a run from the beginning."""
    machine = Machine(programs, rates)
    views = []
    for pick in picks:
        views.extend(machine.step(pick))
    return views


def events_of(views, kind):
    """The list of the events of a kind among the events of these views."""
    return [event for event, _, _ in views if event[0] == kind]
