"""Covering goals in mail nets: the mail basis, mail decisions and their judge (points 33 and 34)."""

from covernets.backward import Search, config_way, configs_before
from covernets.configs import (
    Beside, ConfigBasis, markings_with_empty_words, words_after, words_before, words_cover,
)
from covernets.decisions import (
    are_many_before, least_count, outside_leads_outside, start_marking, step_back_within,
)


class MailDecision:
    """Whether steps lead to the goals, the least count and its steps if so, and the barrier."""

    def __init__(self, reachable, count, steps, barrier):
        self.reachable = reachable
        self.count = count
        self.steps = None if steps is None else tuple([tuple(step) for step in steps])
        self.barrier = tuple([copied_config(config) for config in barrier])


def copied_config(config):
    """Return the configuration with tuples only."""
    marking, words = config
    return tuple(marking), tuple([tuple(word) for word in words])


def mail_step_back(mail, members):
    """Return the basis of the configurations from which one firing leads into the closed set of the members."""
    return configs_before(mail.net, mail.actions, members)


def mail_basis(mail, goals):
    """Return the mail basis of the goals."""
    return sorted(Search(mail.net, mail.actions, goals, None).basis.members)


def mail_way(mail, goals, config):
    """Return a list of steps that leads from the configuration into the closed set of the goals, or None."""
    run = config_way(mail.net, mail.actions, goals, config)
    return None if run is None else steps_of(mail, config[1], run)


def steps_of(mail, words, run):
    """Return the steps of a run: before a letter is heard, those that stand before it in its word are lost."""
    steps = []
    for index in run:
        hears, _ = mail.actions[index]
        for channel, letter in hears:
            steps.extend([("lose", channel, 0)] * words[channel].index(letter))
        steps.append(("fire", index))
        words = words_after(mail.actions[index], words)
    return steps


def decide_mail(mail, start, goals):
    """Return the mail decision."""
    barrier = mail_basis(mail, goals)
    count = least_count(start, markings_with_empty_words(barrier))
    if count is None:
        return MailDecision(False, None, None, barrier)
    beginning = (start_marking(start, count), tuple([() for _ in mail.channels]))
    return MailDecision(True, count, mail_way(mail, goals, beginning), barrier)


def judge_mail(mail, start, goals, barrier):
    """Return True if a judge takes the list of configurations as a barrier, otherwise False."""
    known = ConfigBasis(barrier)
    for goal in goals:
        if not known.contains(goal):
            return False
    if least_count(start, markings_with_empty_words(barrier)) is not None:
        return False
    for words in sorted(set([words for _, words in barrier])):
        markings = [marking for marking, other in barrier if other == words]
        for transition, action in zip(mail.net.transitions, mail.actions):
            if not _only_from_within([transition], known, words_before(action, words), markings):
                return False
    return True


def _only_from_within(transitions, known, words, markings):
    """Return True if all that leads to the markings, and has these words before, is in the known closed set."""
    if are_many_before(transitions, markings):
        before = [marking for marking, other in known.members if words_cover(words, other)]
        return outside_leads_outside(transitions, before, markings)
    return step_back_within(transitions, Beside(known, words), markings)
