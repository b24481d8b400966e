import random
import unittest
from itertools import combinations

from covernets.configs import (
    ConfigBasis, config_basis, config_covers, in_config_set, is_within, words_after, words_before, words_cover,
)
from helpers import HUGE


def part_words(word):
    """All words that result when letters are left out."""
    return {tuple(word[at] for at in kept) for n in range(len(word) + 1) for kept in combinations(range(len(word)), n)}


def some_config(chooser, places, channels, letters):
    return (
        tuple(chooser.randint(0, 2) for _ in range(places)),
        tuple(tuple(chooser.randrange(letters) for _ in range(chooser.randint(0, 3))) for _ in range(channels)),
    )


class WordsTest(unittest.TestCase):
    def test_ordinary(self):
        self.assertIs(is_within((0, 2), (0, 1, 2)), True)
        self.assertIs(is_within((2, 0), (0, 1, 2)), False)
        self.assertIs(is_within((1, 1), (1, 0)), False)
        self.assertIs(is_within((1, 1), (1, 0, 1)), True)
        self.assertIs(is_within((7,), (7,)), True)

    def test_empty_words(self):
        self.assertIs(is_within((), ()), True)
        self.assertIs(is_within((), (3,)), True)
        self.assertIs(is_within((3,), ()), False)

    def test_all_short_words(self):
        chooser = random.Random(1)
        for _ in range(400):
            second = tuple(chooser.randrange(3) for _ in range(chooser.randint(0, 6)))
            first = tuple(chooser.randrange(3) for _ in range(chooser.randint(0, 4)))
            self.assertIs(is_within(first, second), first in part_words(second))


class ActionsTest(unittest.TestCase):
    def test_words_before(self):
        self.assertEqual(words_before(((), ((0, 1),)), ((0, 1),)), ((0,),))
        self.assertEqual(words_before(((), ((0, 1),)), ((1, 0),)), ((1, 0),))
        self.assertEqual(words_before((((0, 1),), ((0, 0),)), ((0,),)), ((1,),))
        self.assertEqual(words_before((((1, 2),), ((0, 0),)), ((), (0,))), ((), (2, 0)))
        self.assertEqual(words_before(((), ()), ()), ())

    def test_words_after(self):
        self.assertEqual(words_after((((0, 1),), ((0, 0),)), ((0, 0, 1, 1, 0),)), ((1, 0, 0),))
        self.assertEqual(words_after((((0, 1),), ((1, 3),)), ((1,), (2,))), ((), (2, 3)))
        self.assertIsNone(words_after((((0, 1), (1, 0)), ()), ((1,), ())))
        self.assertEqual(words_after(((), ()), ((1,),)), ((1,),))


class ConfigsTest(unittest.TestCase):
    def test_covers(self):
        self.assertIs(config_covers(((1, 2), ((0, 1),)), ((1, 1), ((1,),))), True)
        self.assertIs(config_covers(((1, 0), ((0, 1),)), ((1, 1), ((1,),))), False)
        self.assertIs(config_covers(((1, 2), ((0, 1),)), ((1, 1), ((1, 0),))), False)
        self.assertIs(config_covers(((1,), ((0,), (1,))), ((1,), ((0,), ()))), True)
        self.assertIs(config_covers(((1,), ((0,), (1,))), ((1,), ((1,), (0,)))), False)

    def test_no_channels(self):
        self.assertIs(config_covers(((2,), ()), ((1,), ())), True)
        self.assertIs(config_covers(((1,), ()), ((2,), ())), False)
        self.assertEqual(config_basis([((2, 1), ()), ((0, 3), ()), ((2, 1), ()), ((2, 4), ())]), [((0, 3), ()), ((2, 1), ())])

    def test_example(self):
        members = [((1,), ((0, 1),)), ((1,), ((0, 0, 1),)), ((2,), ((1,),))]
        self.assertEqual(config_basis(members), [((1,), ((0, 1),)), ((2,), ((1,),))])
        self.assertEqual(members, [((1,), ((0, 1),)), ((1,), ((0, 0, 1),)), ((2,), ((1,),))])

    def test_twice_and_empty(self):
        self.assertEqual(config_basis([]), [])
        config = ((1,), ((), (2,)))
        self.assertEqual(config_basis([config, config]), [config])
        self.assertIs(in_config_set([], config), False)
        self.assertIs(in_config_set([((0,), ((), ()))], config), True)

    def test_great_numbers(self):
        members = [((HUGE, 0), ((),)), ((HUGE - 1, 0), ((1,),)), ((HUGE, 1), ((),))]
        self.assertEqual(config_basis(members), [((HUGE - 1, 0), ((1,),)), ((HUGE, 0), ((),))])

    def test_order_is_markings_first(self):
        members = [((0, 1), ((2,),)), ((1, 0), ((),)), ((0, 1), ((1, 0),)), ((0, 2), ((0,),))]
        self.assertEqual(config_basis(members), [
            ((0, 1), ((1, 0),)), ((0, 1), ((2,),)), ((0, 2), ((0,),)), ((1, 0), ((),)),
        ])

    def test_many_lists(self):
        chooser = random.Random(2)
        for _ in range(200):
            channels = chooser.randint(0, 2)
            members = [some_config(chooser, 2, channels, 2) for _ in range(chooser.randint(0, 12))]
            before = list(members)
            least = sorted(
                config for config in set(members)
                if not any(config_covers(config, other) and config != other for other in members)
            )
            found = config_basis(members)
            self.assertEqual(found, least)
            found.append(None)
            self.assertEqual(config_basis(members[::-1]), least)
            self.assertEqual(members, before)
            for _ in range(20):
                config = some_config(chooser, 2, channels, 2)
                expected = any(
                    all(n >= m for n, m in zip(config[0], other[0]))
                    and all(word in part_words(around) for word, around in zip(other[1], config[1]))
                    for other in members
                )
                self.assertIs(in_config_set(members, config), expected)
                self.assertIs(in_config_set(least, config), expected)
                self.assertIs(ConfigBasis(members).contains(config), expected)

    def test_basis_tells_what_is_replaced(self):
        basis = ConfigBasis([((2,), ((0, 1),)), ((3,), ((1,),)), ((0,), ((0, 0, 0),))])
        self.assertEqual(basis.include(((4,), ((1,),))), [])
        self.assertEqual(sorted(basis.include(((2,), ((1,),)))), [((2,), ((0, 1),)), ((3,), ((1,),))])
        self.assertEqual(sorted(basis.members), [((0,), ((0, 0, 0),)), ((2,), ((1,),))])
        self.assertIs(words_cover(((1,), (2,)), ((), (2,))), True)


if __name__ == "__main__":
    unittest.main()
