"""Verdicts on protocols: whether a bad global state can be reached, with the least number of parties (point 43)."""

from covernets.compiler import compile_protocol, schedule_of
from covernets.mailcover import copied_config, decide_mail


class Verdict:
    """Whether a bad global state can be reached, the least number of parties and a schedule if so, and the barrier."""

    def __init__(self, reachable, parties, schedule, barrier):
        self.reachable = reachable
        self.parties = parties
        self.schedule = None if schedule is None else tuple([_copied_step(step) for step in schedule])
        self.barrier = tuple([copied_config(config) for config in barrier])


def _copied_step(step):
    """Return the step with tuples only."""
    if step[0] == "lose":
        return tuple(step)
    word, rule, acting = step
    return word, rule, tuple(acting)


def decide_protocol(protocol):
    """Return the verdict on a protocol."""
    mail, start, goals = compile_protocol(protocol)
    decision = decide_mail(mail, start, goals)
    if not decision.reachable:
        return Verdict(False, None, None, decision.barrier)
    schedule = schedule_of(protocol, decision.count, decision.steps)
    return Verdict(True, decision.count, schedule, decision.barrier)
