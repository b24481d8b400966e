import unittest
from itertools import combinations, product

from covernets.configs import config_basis, config_covers, in_config_set
from covernets.decisions import decide, judge_barrier
from covernets.mail import MailNet, can_take, take_mail
from covernets.mailcover import MailDecision, decide_mail, judge_mail, mail_basis, mail_step_back, mail_way
from covernets.nets import Net
from helpers import HUGE, small_mail, small_net

# Hears letter 1 and sends letter 0 on the same channel.
ECHO = MailNet(Net(1, [((0,), (1,), (0,))]), [2], [(((0, 1),), ((0, 0),))])
# A token of place 0 is sent for one of place 1, which is heard for one of place 2.
POST = MailNet(Net(3, [((1, 0, 0), (0, 1, 0), (0, 1, 2)), ((0, 1, 0), (0, 0, 1), (0, 1, 2))]), [1], [
    ((), ((0, 0),)), (((0, 0),), ()),
])
CHANNELS = ([], [2], [1, 2], [3], [4])


def part_words(word):
    return {tuple(word[at] for at in kept) for n in range(len(word) + 1) for kept in combinations(range(len(word)), n)}


def short_words(letters, most):
    return [word for length in range(most + 1) for word in product(range(letters), repeat=length)]


def start_at(start, count, channels):
    base, free = start
    return tuple(number + count * (place == free) for place, number in enumerate(base)), ((),) * len(channels)


def leads_into(mail, config, members):
    """Whether one firing after some losses leads into the closed set of the members; all losses are tried."""
    marking, words = config
    for fewer in product(*[sorted(part_words(word)) for word in words]):
        for index in range(len(mail.actions)):
            if can_take(mail, (marking, fewer), ("fire", index)):
                if in_config_set(members, take_mail(mail, (marking, fewer), [("fire", index)])):
                    return True
    return False


def some_goals(seed, channels):
    words = tuple((seed % letters,) * (seed // 2 % 2) for letters in channels)
    goals = [((1, 0, seed % 3), words), ((0, 2, 1), ((),) * len(channels))]
    return goals[:1 + seed % 2]


class StepBackTest(unittest.TestCase):
    def test_what_is_sent(self):
        mail = MailNet(Net(1, [((0,), (0,), (0,))]), [2], [((), ((0, 1),))])
        self.assertEqual(mail_step_back(mail, [((1,), ((0, 1),))]), [((1,), ((0,),))])
        self.assertEqual(mail_step_back(mail, [((1,), ((1, 0),))]), [((1,), ((1, 0),))])
        self.assertEqual(mail_step_back(mail, [((1,), ((1,),))]), [((1,), ((),))])
        self.assertEqual(mail_step_back(mail, [((1,), ((),))]), [((1,), ((),))])

    def test_what_is_heard(self):
        mail = MailNet(Net(1, [((0,), (0,), (0,))]), [2], [(((0, 1),), ())])
        self.assertEqual(mail_step_back(mail, [((1,), ((0, 1),))]), [((1,), ((1, 0, 1),))])
        self.assertEqual(mail_step_back(mail, [((1,), ((),))]), [((1,), ((1,),))])

    def test_same_channel(self):
        self.assertEqual(mail_step_back(ECHO, [((3,), ((0, 0),))]), [((2,), ((1, 0),))])
        self.assertEqual(mail_step_back(ECHO, [((0,), ((1,),))]), [((0,), ((1, 1),))])

    def test_no_members_and_no_transitions(self):
        self.assertEqual(mail_step_back(ECHO, []), [])
        self.assertEqual(mail_step_back(MailNet(Net(1, []), [1], []), [((0,), ((),))]), [])

    def test_all_small_configurations(self):
        found = 0
        for seed in range(40):
            channels = CHANNELS[seed % 4]
            mail = small_mail(seed, 2, 3, channels, seed % 3)
            members = [(marking, words) for (*marking, _), words in some_goals(seed, channels)]
            members = [(tuple(marking), words) for marking, words in members]
            before = mail_step_back(mail, members)
            self.assertEqual(before, config_basis(before))
            words = list(product(*[short_words(letters, 3 - len(channels) + 1) for letters in channels]))
            for config in product(product(range(4), repeat=2), words):
                expected = leads_into(mail, config, members)
                self.assertIs(in_config_set(before, config), expected, (seed, config))
                found += expected
        self.assertGreater(found, 200)


class MailBasisTest(unittest.TestCase):
    def test_example(self):
        goals = [((1,), ((0,),))]
        self.assertEqual(mail_basis(ECHO, goals), [((0,), ((1,),)), ((1,), ((0,),))])
        self.assertEqual(goals, [((1,), ((0,),))])

    def test_no_goals(self):
        self.assertEqual(mail_basis(ECHO, []), [])

    def test_goal_twice(self):
        goal = ((0,), ((1, 1),))
        self.assertEqual(mail_basis(ECHO, [goal, goal]), [goal])

    def test_letters_that_nobody_sends(self):
        mail = MailNet(Net(2, [((1, 0), (0, 1), (0, 1))]), [2], [(((0, 1),), ())])
        self.assertEqual(mail_basis(mail, [((0, 1), ((),))]), [((0, 1), ((),)), ((1, 0), ((1,),))])

    def test_post(self):
        self.assertEqual(mail_basis(POST, [((0, 0, 1), ((),))]), [
            ((0, 0, 1), ((),)), ((0, 1, 0), ((0,),)), ((1, 0, 0), ((),)),
        ])

    def test_many_mail_nets(self):
        longest = 0
        for seed in range(120):
            channels = CHANNELS[seed % 5]
            mail = small_mail(seed, 3, 3, channels, seed % 3)
            goals = some_goals(seed, channels)
            basis = mail_basis(mail, goals)
            self.assertEqual(basis, config_basis(basis))
            for config in goals + mail_step_back(mail, basis):
                self.assertTrue(in_config_set(basis, config))
            for config in basis:
                steps = mail_way(mail, goals, config)
                self.assertIsInstance(steps, list)
                self.assertTrue(in_config_set(goals, take_mail(mail, config, steps)))
            longest = max(longest, len(basis))
            again = mail_basis(mail, goals)
            self.assertEqual(again, basis)
            again.append(0)
            self.assertEqual(mail_basis(mail, goals), basis)
        self.assertGreater(longest, 8)

    def test_great_numbers(self):
        # Letter 0 goes round and round, and gives a token each time.
        mail = MailNet(Net(2, [((0, 0), (1, 0), (0, 1)), ((0, 1), (0, 0), (0, 1))]), [1], [
            (((0, 0),), ((0, 0),)), ((), ((0, 0),)),
        ])
        self.assertEqual(mail_basis(mail, [((HUGE, 0), ((),))]), [
            ((0, 0), ((0,),)), ((0, 1), ((),)), ((HUGE, 0), ((),)),
        ])
        goal = ((5, 0), ((),))
        steps = mail_way(mail, [goal], ((2, 1), ((),)))
        self.assertTrue(config_covers(take_mail(mail, ((2, 1), ((),)), steps), goal))
        decision = decide_mail(mail, ((HUGE - 2, 0), 1), [((HUGE, 0), ((),))])
        self.assertEqual(decision.count, 1)
        # Here the letter is heard in turn by two transitions on two channels.
        mail = MailNet(Net(1, [((0,), (1,), (0,)), ((0,), (0,), (0,))]), [2, 1], [
            (((0, 1),), ((1, 0),)), (((1, 0),), ((0, 1),)),
        ])
        self.assertEqual(mail_basis(mail, [((HUGE,), ((), ()))]), [
            ((0,), ((), (0,))), ((0,), ((1,), ())), ((HUGE,), ((), ())),
        ])


class MailWayTest(unittest.TestCase):
    def test_letters_before_what_is_heard_are_lost(self):
        config = ((0,), ((0, 0, 1, 0, 1),))
        steps = mail_way(ECHO, [((2,), ((),))], config)
        self.assertEqual(take_mail(ECHO, config, steps)[0], (2,))
        self.assertIsNone(mail_way(ECHO, [((3,), ((),))], config))

    def test_at_once(self):
        self.assertEqual(mail_way(ECHO, [((9,), ((),)), ((0,), ((1,),))], ((3,), ((0, 1),))), [])

    def test_no_goals(self):
        self.assertIsNone(mail_way(ECHO, [], ((3,), ((0, 1),))))

    def test_long_way(self):
        # From so many letters so many tokens, which are more than what is tried forward.
        config = ((0,), ((1, 0) * 100,))
        steps = mail_way(ECHO, [((100,), ((),))], config)
        self.assertEqual(take_mail(ECHO, config, steps)[0], (100,))
        self.assertIsNone(mail_way(ECHO, [((101,), ((),))], config))

    def test_many_mail_nets(self):
        none = some = 0
        for seed in range(60):
            channels = CHANNELS[seed % 5]
            mail = small_mail(seed, 3, 3, channels, seed % 3)
            goals = some_goals(seed, channels)
            basis = mail_basis(mail, goals)
            words = list(product(*[short_words(letters, 1) for letters in channels]))
            for config in product(product(range(3), repeat=3), words):
                steps = mail_way(mail, goals, config)
                self.assertIs(steps is not None, in_config_set(basis, config))
                if steps is None:
                    none += 1
                else:
                    some += 1
                    self.assertTrue(in_config_set(goals, take_mail(mail, config, steps)))
        self.assertGreater(min(none, some), 500)


class ListsTest(unittest.TestCase):
    def test_lists_are_new_and_equal(self):
        goals, config = [((0, 0, 1), ((),))], ((2, 0, 0), ((),))
        for function, arguments in ((mail_step_back, (goals,)), (mail_basis, (goals,)), (mail_way, (goals, config))):
            first = function(POST, *arguments)
            expected = list(first)
            first.append("more")
            self.assertEqual(function(POST, *arguments), expected)
        self.assertEqual((goals, config), ([((0, 0, 1), ((),))], ((2, 0, 0), ((),))))


class DecisionTest(unittest.TestCase):
    def test_copies(self):
        steps, barrier = [["fire", 0], ("lose", 0, 1)], [[[1, 0], [[0, 1], []]], ((0, 1), ((), (1,)))]
        decision = MailDecision(True, 3, steps, barrier)
        steps.append(1)
        steps[0][1] = 5
        barrier[0][0][0] = 7
        barrier[0][1][0].append(3)
        barrier.append(2)
        self.assertEqual((decision.reachable, decision.count), (True, 3))
        self.assertEqual(decision.steps, (("fire", 0), ("lose", 0, 1)))
        self.assertEqual(decision.barrier, (((1, 0), ((0, 1), ())), ((0, 1), ((), (1,)))))
        self.assertIsNone(MailDecision(False, None, None, []).steps)

    def test_ordinary(self):
        decision = decide_mail(POST, ((0, 0, 1), 0), [((0, 0, 3), ((),))])
        self.assertIs(decision.reachable, True)
        self.assertEqual(decision.count, 2)
        end = take_mail(POST, ((2, 0, 1), ((),)), decision.steps)
        self.assertEqual(end[0], (0, 0, 3))
        decision = decide_mail(POST, ((0, 0, 1), 1), [((0, 0, 2), ((),))])
        self.assertIs(decision.reachable, False)
        self.assertEqual((decision.count, decision.steps), (None, None))
        self.assertEqual(decision.barrier, tuple(mail_basis(POST, [((0, 0, 2), ((),))])))

    def test_words_are_empty_at_the_beginning(self):
        self.assertIs(decide_mail(ECHO, ((5,), 0), [((0,), ((0,),))]).reachable, False)
        self.assertIs(decide_mail(ECHO, ((5,), -1), [((5,), ((),))]).reachable, True)

    def test_no_goals_and_at_once(self):
        decision = decide_mail(ECHO, ((0,), 0), [])
        self.assertEqual((decision.reachable, decision.count, decision.steps, decision.barrier), (False, None, None, ()))
        for free in (-1, 0):
            decision = decide_mail(ECHO, ((5,), free), [((7,), ((1,),)), ((5,), ((),))])
            self.assertEqual((decision.reachable, decision.count, decision.steps), (True, 0, ()))

    def test_only_count_zero_is_allowed(self):
        self.assertIs(decide_mail(ECHO, ((5,), -1), [((6,), ((),))]).reachable, False)
        self.assertEqual(decide_mail(ECHO, ((5,), 0), [((6,), ((),))]).count, 1)

    def test_many_mail_nets(self):
        reached = 0
        for seed in range(200):
            channels = CHANNELS[seed % 5]
            mail = small_mail(seed, 3, 3, channels, seed % 3)
            goals, start = some_goals(seed, channels), ((seed % 2, 0, seed % 3), seed % 4 - 1)
            decision = decide_mail(mail, start, goals)
            barrier = list(decision.barrier)
            self.assertEqual(barrier, mail_basis(mail, goals))
            self.assertIs(judge_mail(mail, start, goals, barrier), not decision.reachable)
            if decision.reachable:
                reached += 1
                end = take_mail(mail, start_at(start, decision.count, channels), decision.steps)
                self.assertTrue(in_config_set(goals, end))
                self.assertIsInstance(decision.steps, tuple)
                if start[1] == -1:
                    self.assertEqual(decision.count, 0)
                for count in range(decision.count):
                    self.assertFalse(in_config_set(barrier, start_at(start, count, channels)))
            else:
                self.assertEqual((decision.count, decision.steps), (None, None))
                for count in range(1 if start[1] == -1 else 9):
                    self.assertFalse(in_config_set(barrier, start_at(start, count, channels)))
            again = decide_mail(mail, start, goals)
            self.assertEqual((again.count, again.steps, again.barrier), (decision.count, decision.steps, decision.barrier))
        self.assertGreater(reached, 40)
        self.assertLess(reached, 180)

    def test_without_channels_like_decide(self):
        for seed in range(200):
            net = small_net(seed, 3, 3, 2, seed % 4)
            mail = MailNet(net, [], [((), ())] * 3)
            start, goals = ((seed % 2, 0, seed % 3), seed % 4 - 1), [(2, seed % 3, 0), (0, 1, 3)]
            configs = [(goal, ()) for goal in goals]
            first, second = decide(net, start, goals), decide_mail(mail, start, configs)
            self.assertEqual((first.reachable, first.count), (second.reachable, second.count))
            self.assertEqual(second.barrier, tuple((marking, ()) for marking in first.barrier))
            if first.reachable:
                self.assertEqual(second.steps, tuple(("fire", index) for index in first.run))
            members = [(1, 0, 1), (0, 2, 0)]
            self.assertIs(
                judge_mail(mail, start, [((2, 2, 2), ())], [(member, ()) for member in members]),
                judge_barrier(net, start, [(2, 2, 2)], members),
            )

    def test_great_numbers(self):
        decision = decide_mail(POST, ((HUGE - 1, 0, 0), 1), [((HUGE - 3, 0, 2), ((),))])
        self.assertEqual(decision.count, 0)
        decision = decide_mail(POST, ((0, 0, 0), 0), [((HUGE, 0, 2), ((),))])
        self.assertEqual(decision.count, HUGE + 2)
        end = take_mail(POST, ((HUGE + 2, 0, 0), ((),)), decision.steps)
        self.assertTrue(config_covers(end, ((HUGE, 0, 2), ((),))))


class JudgeTest(unittest.TestCase):
    goals = [((0, 0, 1), ((),))]
    barrier = [((0, 0, 1), ((),)), ((0, 1, 0), ((0,),)), ((1, 0, 0), ((),))]

    def test_taken(self):
        before = list(self.barrier)
        self.assertIs(judge_mail(POST, ((0, 3, 0), -1), self.goals, self.barrier), True)
        self.assertIs(judge_mail(POST, ((0, 3, 0), 1), self.goals, self.barrier), True)
        self.assertIs(judge_mail(POST, ((0, 0, 0), 1), self.goals, self.barrier[::-1] + self.barrier), True)
        self.assertIs(judge_mail(POST, ((0, 0, 0), 1), self.goals, self.barrier + [((0, 5, 2), ((0, 0),))]), True)
        self.assertEqual(self.barrier, before)

    def test_beginnings(self):
        self.assertIs(judge_mail(POST, ((1, 0, 0), -1), self.goals, self.barrier), False)
        self.assertIs(judge_mail(POST, ((0, 3, 0), 0), self.goals, self.barrier), False)
        self.assertIs(judge_mail(POST, ((0, 3, 0), 2), self.goals, self.barrier), False)
        self.assertIs(judge_mail(POST, ((0, 3, 1), -1), self.goals, self.barrier), False)

    def test_missing_members(self):
        for kept in combinations(self.barrier, 2):
            self.assertIs(judge_mail(POST, ((0, 3, 0), -1), self.goals, list(kept)), False)
        self.assertIs(judge_mail(POST, ((0, 3, 0), -1), self.goals, []), False)
        self.assertIs(judge_mail(POST, ((0, 3, 0), -1), [], []), True)

    def test_members_that_are_too_great(self):
        for at, greater in ((1, ((0, 2, 0), ((0,),))), (1, ((0, 1, 0), ((0, 0),))), (2, ((2, 0, 0), ((),)))):
            changed = list(self.barrier)
            changed[at] = greater
            self.assertIs(judge_mail(POST, ((0, 3, 0), -1), self.goals, changed), False)

    def test_other_barriers(self):
        self.assertIs(judge_mail(POST, ((0, 3, 0), -1), self.goals, [((0, 0, 1), ((),)), ((0, 0, 0), ((0,),))]), False)
        wide = [((0, 0, 1), ((),)), ((0, 0, 0), ((0,),)), ((1, 0, 0), ((),))]
        self.assertIs(judge_mail(POST, ((0, 3, 0), -1), self.goals, wide), True)

    def test_many_mail_nets(self):
        judged = 0
        for seed in range(100):
            channels = CHANNELS[seed % 5]
            mail = small_mail(seed, 3, 3, channels, seed % 3)
            goals, start = some_goals(seed, channels), ((0, 0, 0), -1)
            barrier = mail_basis(mail, goals)
            if not in_config_set(barrier, start_at(start, 0, channels)):
                self.assertIs(judge_mail(mail, start, goals, barrier), True)
                for at in range(len(barrier)):
                    self.assertIs(judge_mail(mail, start, goals, barrier[:at] + barrier[at + 1:]), False)
                    judged += 1
        self.assertGreater(judged, 200)

    def test_great_numbers(self):
        # All tokens go to place 0 when letter 0 is heard; what is just outside can be spread in very many ways.
        mail = MailNet(Net(2, [((0, 0), (0, 0), (0, 0))]), [1], [(((0, 0),), ())])
        goals, start = [((HUGE, 0), ((),))], ((0, 0), -1)
        self.assertIs(judge_mail(mail, start, goals, [((HUGE, 0), ((),))]), False)
        self.assertIs(judge_mail(mail, start, goals, [((HUGE, 0), ((),)), ((0, HUGE), ((0,),))]), False)
        self.assertIs(judge_mail(mail, start, goals, [((HUGE, 0), ((),)), ((0, 1), ((0,),))]), True)
        self.assertIs(judge_mail(mail, start, goals, [((HUGE, 0), ((),)), ((0, 1), ((0, 0),))]), False)
        self.assertIs(judge_mail(mail, ((0, 0), 1), goals, [((HUGE, 0), ((),)), ((0, 1), ((0,),))]), True)
        self.assertIs(judge_mail(mail, ((0, 0), 1), goals, [((HUGE, 0), ((),)), ((0, 1), ((),))]), False)


if __name__ == "__main__":
    unittest.main()
