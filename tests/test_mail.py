import random
import unittest

from covernets.errors import InvalidNet, NotEnabled
from covernets.mail import MailNet, can_take, take_mail
from covernets.nets import Net
from helpers import HUGE, small_mail

ONE = Net(1, [((0,), (1,), (0,))])
# Hears letter 1 and sends letter 0 on the same channel.
ECHO = MailNet(ONE, [2], [(((0, 1),), ((0, 0),))])


class MailNetTest(unittest.TestCase):
    def test_copies(self):
        channels, hears, sends = [2, 3], [[0, 1], (1, 2)], [[1, 0]]
        actions = [[hears, sends]]
        mail = MailNet(ONE, channels, actions)
        channels[0] = 1
        hears[0][1] = 0
        sends.append((0, 0))
        actions.append(3)
        self.assertIs(mail.net, ONE)
        self.assertEqual(mail.channels, (2, 3))
        self.assertEqual(mail.actions, ((((0, 1), (1, 2)), ((1, 0),)),))

    def test_numbers_of_channels_and_letters(self):
        for channels in ([], [1], [4], [1, 4], [4, 1], (2, 2)):
            self.assertEqual(MailNet(ONE, channels, [((), ())]).channels, tuple(channels))
        for channels in ([1, 1, 1], [0], [5], [1, 0], [5, 1], [-1]):
            with self.assertRaises(InvalidNet):
                MailNet(ONE, channels, [((), ())])

    def test_number_of_actions(self):
        self.assertEqual(MailNet(Net(2, []), [1], []).actions, ())
        for actions in ([], [((), ()), ((), ())]):
            with self.assertRaises(InvalidNet):
                MailNet(ONE, [1], actions)
        with self.assertRaises(InvalidNet):
            MailNet(Net(2, []), [1], [((), ())])

    def test_channels_and_letters_that_are_not_there(self):
        for pair in ((0, 2), (0, -1), (1, 3), (2, 0), (-1, 0), (5, 5)):
            for action in (((pair,), ()), ((), (pair,)), (((0, 0), pair), ()), ((), ((0, 0), pair))):
                with self.assertRaises(InvalidNet):
                    MailNet(ONE, [2, 3], [action])
        for pair in ((0, 0), (0, 1), (1, 0), (1, 2)):
            self.assertEqual(MailNet(ONE, [2, 3], [((pair,), (pair,))]).actions, (((pair,), (pair,)),))

    def test_channel_twice(self):
        for pairs in (((0, 0), (0, 1)), ((1, 0), (0, 0), (1, 0))):
            for action in ((pairs, ()), ((), pairs)):
                with self.assertRaises(InvalidNet):
                    MailNet(ONE, [2, 3], [action])
        both = ((1, 2), (0, 1))
        self.assertEqual(MailNet(ONE, [2, 3], [(both, both)]).actions, ((both, both),))

    def test_four_letters_and_two_channels(self):
        mail = MailNet(ONE, [4, 4], [(((1, 3), (0, 3)), ((0, 3), (1, 2)))])
        self.assertEqual(take_mail(mail, ((0,), ((3, 1), (3,))), [("fire", 0)]), ((1,), ((1, 3), (2,))))


class StepsTest(unittest.TestCase):
    def test_example(self):
        steps = [("lose", 0, 0), ("fire", 0)]
        self.assertEqual(take_mail(ECHO, ((0,), ((0, 1, 1),)), steps), ((1,), ((1, 0),)))
        self.assertEqual(steps, [("lose", 0, 0), ("fire", 0)])

    def test_heard_first_then_sent(self):
        mail = MailNet(ONE, [1], [(((0, 0),), ((0, 0),))])
        self.assertEqual(take_mail(mail, ((0,), ((0,),)), [("fire", 0)] * 3), ((3,), ((0,),)))
        self.assertIs(can_take(mail, ((0,), ((),)), ("fire", 0)), False)

    def test_marking_and_words_are_both_needed(self):
        mail = MailNet(Net(2, [((1, 0), (0, 2), (1, 1))]), [2, 1], [(((0, 1), (1, 0)), ())])
        self.assertIs(can_take(mail, ((1, 0), ((1,), (0,))), ("fire", 0)), True)
        self.assertIs(can_take(mail, ((0, 4), ((1,), (0,))), ("fire", 0)), False)
        self.assertIs(can_take(mail, ((1, 0), ((0, 1), (0,))), ("fire", 0)), False)
        self.assertIs(can_take(mail, ((1, 0), ((1,), ())), ("fire", 0)), False)
        self.assertEqual(take_mail(mail, ((3, 5), ((1, 0), (0, 0))), [("fire", 0)]), ((0, 9), ((0,), (0,))))

    def test_letters_are_lost_anywhere(self):
        config = ((7,), ((0, 1, 0, 1),))
        mail = MailNet(ONE, [2], [((), ())])
        for position, left in enumerate(((1, 0, 1), (0, 0, 1), (0, 1, 1), (0, 1, 0))):
            self.assertIs(can_take(mail, config, ("lose", 0, position)), True)
            self.assertEqual(take_mail(mail, config, [("lose", 0, position)]), ((7,), (left,)))
        second = ((7,), ((0,), (2, 1)))
        mail = MailNet(ONE, [1, 3], [((), ())])
        self.assertEqual(take_mail(mail, second, [("lose", 1, 1), ("lose", 0, 0), ("lose", 1, 0)]), ((7,), ((), ())))

    def test_numbers_that_are_not_there(self):
        config = ((7,), ((0, 1),))
        for step in (
            ("fire", 1), ("fire", -1), ("fire", HUGE), ("fire", -HUGE), ("lose", 1, 0), ("lose", -1, 0),
            ("lose", 0, 2), ("lose", 0, -1), ("lose", HUGE, HUGE), ("lose", 0, -HUGE),
        ):
            self.assertIs(can_take(ECHO, config, step), False)
            with self.assertRaises(NotEnabled) as caught:
                take_mail(ECHO, config, [("lose", 0, 0), ("lose", 0, 0), step])
            self.assertEqual(caught.exception.position, 2)

    def test_position_of_the_first_impossible_step(self):
        with self.assertRaises(NotEnabled) as caught:
            take_mail(ECHO, ((0,), ((1,),)), [("fire", 0), ("fire", 0), ("fire", 9)])
        self.assertEqual(caught.exception.position, 1)
        with self.assertRaises(NotEnabled) as caught:
            take_mail(ECHO, ((0,), ((),)), [("fire", 0)])
        self.assertEqual(caught.exception.position, 0)

    def test_no_channels(self):
        mail = MailNet(Net(2, [((1, 0), (0, 1), (0, 1))]), [], [((), ())])
        self.assertEqual(take_mail(mail, ((HUGE, 0), ()), [("fire", 0)]), ((HUGE - 1, 1), ()))
        self.assertIs(can_take(mail, ((1, 0), ()), ("lose", 0, 0)), False)
        self.assertIs(can_take(mail, ((0, 1), ()), ("fire", 0)), False)

    def test_no_steps(self):
        config = ((0,), ((0, 1),))
        self.assertEqual(take_mail(ECHO, config, []), config)

    def test_many_steps(self):
        """Each step is compared with what point 32 says, word by word."""
        taken = 0
        for seed in range(60):
            chooser = random.Random(seed)
            channels = [[], [2], [3, 2]][seed % 3]
            mail = small_mail(seed, 3, 4, channels, 2)
            marking, words = (2, 2, 2), tuple((0, 1) * 2 for _ in channels)
            for _ in range(20):
                step = ("fire", chooser.randrange(4))
                if channels and chooser.random() < 0.3:
                    step = ("lose", chooser.randrange(len(channels)), chooser.randrange(4))
                expected = self.after(mail, marking, words, step)
                self.assertIs(can_take(mail, (marking, words), step), expected is not None)
                if expected is not None:
                    self.assertEqual(take_mail(mail, (marking, words), [step]), expected)
                    marking, words = expected
                    taken += 1
        self.assertGreater(taken, 200)

    def after(self, mail, marking, words, step):
        words = [list(word) for word in words]
        if step[0] == "lose":
            if step[2] >= len(words[step[1]]):
                return None
            del words[step[1]][step[2]]
            return marking, tuple(map(tuple, words))
        takes, gives, moves = mail.net.transitions[step[1]]
        hears, sends = mail.actions[step[1]]
        if any(number < taken for number, taken in zip(marking, takes)):
            return None
        for channel, letter in hears:
            if not words[channel] or words[channel].pop(0) != letter:
                return None
        for channel, letter in sends:
            words[channel].append(letter)
        left = [number - taken for number, taken in zip(marking, takes)]
        result = [
            gives[place] + sum(left[other] for other in range(len(left)) if moves[other] == place)
            for place in range(len(left))
        ]
        return tuple(result), tuple(map(tuple, words))


if __name__ == "__main__":
    unittest.main()
