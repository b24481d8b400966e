import random
import unittest

from covernets.errors import IllegalStep
from covernets.language import format_protocol, parse_protocol
from covernets.parties import is_bad, play, start_state, take_step
from covernets.watch import Watch
from helpers import active_protocol, legal_steps, next_states, sorted_state

EXAMPLE = "states a b c\nstart a\nrule go: a -> b\nrule back: b -> a\nrule off: b -> c\nbad b 2\n"
POST = (
    "states a b c\nstart a\nchannel box s t\nrule one: a -> b send box = s\nrule two: b -> a send box = t\n"
    "rule get: a -> c hear box = t\nbad c 1\n"
)


def danger_by_search(protocol, state, limit):
    """The danger of a global state, from all schedules; "many" if more than limit global states are seen."""
    first = sorted_state(state)
    level, seen, steps = [first], {first}, 0
    while level:
        # Letters that are lost are not counted.
        for current in level:
            for result, acts in next_states(protocol, current).items():
                if result not in seen and current[2] != result[2] and not acts:
                    seen.add(result)
                    level.append(result)
        if any(is_bad(protocol, current) for current in level):
            return steps
        following = []
        for current in level:
            if len(current[0]) > 5 or len(seen) > limit:
                return "many"
            for result in next_states(protocol, current):
                if result not in seen:
                    seen.add(result)
                    following.append(result)
        level, steps = following, steps + 1
    return None


class WatchTest(unittest.TestCase):
    def check(self, protocol, watch):
        """Check the lapse of a watch and return the danger."""
        state, danger, lapse = watch.state, watch.danger(), watch.lapse()
        if danger is None:
            self.assertIsNone(lapse)
        else:
            self.assertIsInstance(lapse, list)
            self.assertEqual(len([step for step in lapse if step[0] == "act"]), danger)
            for step in lapse:
                state = take_step(protocol, state, step)
            self.assertTrue(is_bad(protocol, state))
            lapse.append("more")
            self.assertEqual(watch.lapse(), lapse[:-1])
        self.assertEqual(watch.danger(), danger)
        return danger

    def test_example(self):
        watch = Watch(parse_protocol(EXAMPLE), 2)
        self.assertEqual(
            (watch.danger(), watch.take(("act", 0, (1,))), watch.take(("act", 2, (1,)))), (2, 1, None)
        )

    def test_following(self):
        protocol = parse_protocol(EXAMPLE)
        watch = Watch(protocol, 3)
        self.assertEqual(watch.state, (("a", "a", "a"), (), ()))
        for step, parties, danger in (
            (("act", 0, (2,)), "aab", 1), (("act", 1, (2,)), "aaa", 2), (("act", 0, (0,)), "baa", 1),
            (("act", 2, (0,)), "caa", 2), (("act", 0, (1,)), "cba", 1), (("act", 0, (2,)), "cbb", 0),
            (("act", 1, (1,)), "cab", 1), (("act", 2, (2,)), "cac", None), (("act", 0, (1,)), "cbc", None),
        ):
            self.assertEqual(watch.take(step), danger)
            self.assertEqual(watch.state, (tuple(parties), (), ()))
            self.assertEqual(self.check(protocol, watch), danger)

    def test_bad_at_the_beginning(self):
        watch = Watch(parse_protocol("states a\nstart a\nbad a 2\n"), 2)
        self.assertEqual((watch.danger(), watch.lapse()), (0, []))
        watch = Watch(parse_protocol("states a\nstart a\nshared v x y\nbad v = x\n"), 0)
        self.assertEqual((watch.danger(), watch.lapse()), (0, []))

    def test_no_danger(self):
        for text, count in (
            (EXAMPLE, 1), (EXAMPLE, 0), (EXAMPLE.replace("bad b 2\n", ""), 3), ("states a b\nstart a\nbad b 1\n", 2),
        ):
            watch = Watch(parse_protocol(text), count)
            self.assertEqual((watch.danger(), watch.lapse()), (None, None))

    def test_letters_that_have_to_be_lost(self):
        protocol = parse_protocol(POST)
        watch = Watch(protocol, 1)
        self.assertEqual(self.check(protocol, watch), 3)
        self.assertEqual(watch.lapse(), [("act", 0, (0,)), ("act", 1, (0,)), ("lose", 0, 0), ("act", 2, (0,))])
        self.assertEqual(watch.take(("act", 0, (0,))), 2)
        self.assertEqual(watch.take(("lose", 0, 0)), 2)
        self.assertEqual(watch.lapse(), [("act", 1, (0,)), ("act", 2, (0,))])
        self.assertEqual(watch.take(("act", 1, (0,))), 1)
        self.assertEqual(watch.take(("lose", 0, 0)), 3)
        only = parse_protocol(
            "states a b c d\nstart a\nchannel box s t\nrule put: a -> b send box = s\nrule more: b -> c send box = t\n"
            "rule get: c -> d hear box = t\nbad d 1\n"
        )
        watch = Watch(only, 1)
        self.assertEqual([watch.take(("act", 0, (0,))), watch.take(("act", 1, (0,)))], [2, 1])
        self.assertEqual(watch.lapse(), [("lose", 0, 0), ("act", 2, (0,))])
        self.assertIsNone(watch.take(("lose", 0, 1)))

    def test_steps_that_are_not_legal(self):
        protocol = parse_protocol(POST)
        watch = Watch(protocol, 2)
        watch.take(("act", 0, (1,)))
        before = (watch.state, watch.danger(), watch.lapse())
        for step in (
            ("act", 1, (0,)), ("act", 0, (2,)), ("act", 0, (-1,)), ("act", 0, ()), ("act", 0, (0, 1)), ("act", 3, (0,)),
            ("act", -1, (0,)), ("act", 2, (0,)), ("lose", 0, 1), ("lose", 0, -1), ("lose", 1, 0), ("lose", -1, 0),
        ):
            with self.assertRaises(IllegalStep) as caught:
                watch.take(step)
            self.assertEqual(caught.exception.position, 0)
            self.assertEqual((watch.state, watch.danger(), watch.lapse()), before)
        self.assertEqual(watch.take(("act", 1, (1,))), 1)

    def test_variables_and_everyone(self):
        protocol = parse_protocol(
            "states a b\nstart a\nshared v x y\nrule lock: a -> a if v = x set v = y\nrule flood: a -> b all a -> b\n"
            "bad b 3, v = y\n"
        )
        watch = Watch(protocol, 4)
        self.assertEqual(self.check(protocol, watch), 2)
        self.assertEqual(watch.take(("act", 0, (2,))), 1)
        self.assertEqual(watch.take(("act", 1, (2,))), 0)
        watch = Watch(protocol, 4)
        self.assertIsNone(watch.take(("act", 1, (0,))))
        self.assertIsNone(Watch(protocol, 2).danger())

    def test_parties_that_are_born(self):
        protocol = parse_protocol("states a b\nstart a\nrule grow: a -> a new b\nrule end: a -> gone\nbad b 9\n")
        watch = Watch(protocol, 1)
        self.assertEqual(self.check(protocol, watch), 9)
        self.assertEqual(watch.take(("act", 0, (0,))), 8)
        self.assertIsNone(watch.take(("act", 1, (0,))))

    def test_first_fitting_parties_are_no_matter(self):
        protocol = parse_protocol("states a b c\nstart a\nrule go: a -> b, a -> gone\nrule on: b -> c\nbad c 2\n")
        watch = Watch(protocol, 5)
        self.assertEqual(self.check(protocol, watch), 4)
        self.assertEqual(watch.take(("act", 0, (4, 1))), 3)
        self.assertEqual(self.check(protocol, watch), 3)

    def test_many_parties(self):
        protocol = parse_protocol(EXAMPLE.replace("bad b 2", "bad b 9, c 9"))
        watch = Watch(protocol, 2000)
        self.assertEqual(self.check(protocol, watch), 27)
        self.assertEqual(watch.take(("act", 0, (1999,))), 26)
        self.assertEqual(watch.take(("act", 2, (1999,))), 25)

    def test_equal_watches(self):
        protocol = active_protocol(8, 4, 5)
        text = format_protocol(protocol)
        first, second = Watch(protocol, 3), Watch(protocol, 3)
        self.assertEqual((first.danger(), first.lapse()), (second.danger(), second.lapse()))
        self.assertEqual(format_protocol(protocol), text)

    def test_many_protocols(self):
        compared = {"none": 0, "bad": 0, "far": 0, "after": 0}
        for seed in range(300):
            protocol = active_protocol(seed, 3, 4, 2)
            if not protocol.bad:
                continue
            chooser = random.Random(seed)
            count = chooser.randint(1, 4)
            watch = Watch(protocol, count)
            schedule = []
            for turn in range(5):
                self.assertEqual(watch.state, play(protocol, count, schedule))
                danger = self.check(protocol, watch)
                expected = danger_by_search(protocol, watch.state, 150)
                if expected != "many":
                    self.assertEqual(danger, expected)
                    compared["after"] += turn > 0
                    compared["none" if danger is None else "far" if danger else "bad"] += 1
                steps = legal_steps(protocol, watch.state)
                if not steps or len(watch.state[0]) > 5:
                    break
                schedule.append(chooser.choice(steps))
                self.assertEqual(watch.take(schedule[-1]), watch.danger())
        self.assertGreater(min(compared.values()), 60)

    def test_watches_without_parties(self):
        for seed in range(40):
            protocol = active_protocol(seed)
            watch = Watch(protocol, 0)
            self.assertEqual(watch.state, start_state(protocol, 0))
            self.assertEqual(self.check(protocol, watch), 0 if is_bad(protocol, watch.state) else None)


if __name__ == "__main__":
    unittest.main()
