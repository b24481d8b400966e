import unittest

from covernets.errors import InvalidNet
from covernets.nets import Net
from covernets.nettext import format_net, parse_net
from helpers import small_net

EXAMPLE = "places 2\ntransition 1 0 / 0 2 / 0 1\ntransition 0 1 / 1 0 / -1 1\n"
LINE = "transition 1 0 / 0 2 / 0 1\n"


class NetTextTest(unittest.TestCase):
    def test_example(self):
        net = Net(2, [((1, 0), (0, 2), (0, 1)), ((0, 1), (1, 0), (-1, 1))])
        self.assertEqual(format_net(net), EXAMPLE)
        read = parse_net(EXAMPLE)
        self.assertIsInstance(read, Net)
        self.assertEqual((read.places, read.transitions), (2, net.transitions))

    def test_no_transitions(self):
        for places in range(1, 13):
            self.assertEqual(format_net(Net(places, [])), f"places {places}\n")
            net = parse_net(f"places {places}\n")
            self.assertEqual((net.places, net.transitions), (places, ()))

    def test_one_place_and_losses(self):
        self.assertEqual(format_net(Net(1, [((9,), (0,), (-1,))])), "places 1\ntransition 9 / 0 / -1\n")
        self.assertEqual(parse_net("places 1\ntransition 9 / 0 / -1\n").transitions, (((9,), (0,), (-1,)),))

    def test_many_nets(self):
        for seed in range(300):
            net = small_net(seed, 1 + seed % 12, seed % 25, 9, seed % 5)
            text = format_net(net)
            read = parse_net(text)
            self.assertEqual((read.places, read.transitions), (net.places, net.transitions))
            self.assertEqual(format_net(read), text)
            self.assertEqual(text.count("\n"), 1 + len(net.transitions))

    def test_greatest_nets(self):
        net = Net(12, [((9,) * 12, (0,) * 12, (11,) * 12)] * 24)
        self.assertEqual(parse_net(format_net(net)).transitions, net.transitions)


class RefusedTest(unittest.TestCase):
    def refused(self, text):
        with self.assertRaises(InvalidNet, msg=repr(text)):
            parse_net(text)

    def test_first_lines(self):
        for text in (
            "", "\n", " ", "places", "places\n", "places \n", "places 2", "places 02\n", "places +2\n", "places -2\n",
            "places -0\n", "places 0\n", "places 13\n", "places 99999999999999999999\n", "places  2\n", " places 2\n",
            "places 2 \n", "places 2 2\n", "place 2\n", "Places 2\n", "2\n", "places x\n", "places 2.\n", "places -\n",
            "places --2\n", "places 2-\n", "places /\n", LINE, "\nplaces 2\n", "places 2\n\n", "places 2\n ", "places 2\nx",
            "places 2\nplaces 2\n", "places2\n",
        ):
            self.refused(text)

    def test_lines(self):
        for line in (
            "", " ", "transition", "transition ", "transition 1 0 / 0 2", "transition 1 0 / 0 2 /",
            "transition 1 0 / 0 2 / 0 1 /", "transition 1 0 / 0 2 / 0 1 / 0 0", "transition 1 0 0 2 / 0 1",
            "transition 1 0 0 2 0 1", "transition / 1 0 / 0 2 / 0 1", "transition 1 0 // 0 2 / 0 1",
            "transition 1 0/ 0 2 / 0 1", "transition 1 / 0 2 / 0 1", "transition 1 0 / 0 2 1 / 0 1",
            "transition 1 0 / 0 2 / 0", "transition 1  0 / 0 2 / 0 1", "transition  1 0 / 0 2 / 0 1",
            " transition 1 0 / 0 2 / 0 1", "transition 1 0 / 0 2 / 0 1 ", "transition 1 0  / 0 2 / 0 1",
            "transition 1 0 /  0 2 / 0 1", "transition 01 0 / 0 2 / 0 1", "transition 1 00 / 0 2 / 0 1",
            "transition 1 -0 / 0 2 / 0 1", "transition +1 0 / 0 2 / 0 1", "transition 1 0 / 0 +2 / 0 1",
            "transition 1 0 / 0 2 / -0 1", "transition 1 0 / 0 2 / +0 1", "transition 1 0 / 0 2 / 0 01",
            "transition 1 0 / 0 2 / -01 1", "transition 10 0 / 0 2 / 0 1", "transition 1 0 / 0 10 / 0 1",
            "transition -1 0 / 0 2 / 0 1", "transition 1 0 / 0 -1 / 0 1", "transition 1 0 / 0 2 / 0 2",
            "transition 1 0 / 0 2 / -2 1", "transition 1 0 / 0 2 / 0 x", "transition 1 0 / 0 2 / 0 -",
            "transition 1 0 / 0 2 / - 1 1", "transition 1, 0 / 0 2 / 0 1", "transitions 1 0 / 0 2 / 0 1",
            "Transition 1 0 / 0 2 / 0 1", "1 0 / 0 2 / 0 1", "places 2",
        ):
            self.refused(f"places 2\n{line}\n")
            self.refused(f"places 2\n{LINE}{line}\n{LINE}")

    def test_last_lines(self):
        self.assertEqual(len(parse_net("places 2\n" + 2 * LINE).transitions), 2)
        self.refused("places 2\n" + LINE[:-1])
        self.refused("places 2\n" + LINE + "\n")
        self.refused("places 2\n" + LINE + "transition")
        self.refused("places 2\n" + LINE + LINE[:-1])
        self.refused("places 2\n" + LINE + " ")
        self.refused(EXAMPLE + "end\n")

    def test_too_many(self):
        self.assertEqual(len(parse_net("places 2\n" + 24 * LINE).transitions), 24)
        self.refused("places 2\n" + 25 * LINE)
        self.refused("places 13\ntransition" + " 0" * 13 + " /" + " 0" * 13 + " /" + " 0" * 13 + "\n")

    def test_long_numbers(self):
        self.refused("places " + "9" * 3900 + "\n")
        self.refused("places 1\ntransition " + "1" * 3900 + " / 0 / 0\n")


if __name__ == "__main__":
    unittest.main()
