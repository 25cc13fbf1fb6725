import unittest

from boundstone.errors import BadSchedule
from boundstone.limits import MOST_NUMBER
from boundstone.net import Net
from values import NO_INTEGERS

PACKETS = [(-1, 1000, ("where", "a")), (1000, -1, ("there", "", "b", 1, 0)), (-1, 0, ("ask", 1, ("get", "a"))),
           (0, -1, ("elsewhere", 1)), (0, 1, ("receipt", "a", "b", 2))]


def net_of(packets):
    net = Net()
    for sender, receiver, letter in packets:
        net.send(sender, receiver, letter)
    return net


class NetTest(unittest.TestCase):
    def check(self, net, packets):
        self.assertEqual(net.packets(), packets)
        self.assertIs(net.packets().__class__, list)
        self.assertEqual(net.count(), len(packets))

    def test_an_empty_network(self):
        self.check(Net(), [])

    def test_send(self):
        net = Net()
        for at, packet in enumerate(PACKETS):
            self.assertIsNone(net.send(*packet))
            self.check(net, PACKETS[:at + 1])
        self.assertIs(net.packets()[0].__class__, tuple)

    def test_the_same_packet_twice(self):
        self.check(net_of(PACKETS[:1] * 3), PACKETS[:1] * 3)

    def test_take(self):
        for at in range(len(PACKETS)):
            net = net_of(PACKETS)
            self.assertEqual(net.take(at), PACKETS[at])
            self.check(net, PACKETS[:at] + PACKETS[at + 1:])
        net = net_of(PACKETS)
        self.assertEqual([net.take(0) for _ in PACKETS], PACKETS)
        self.check(net, [])

    def test_double(self):
        for at in range(len(PACKETS)):
            net = net_of(PACKETS)
            self.assertIsNone(net.double(at))
            self.check(net, PACKETS + [PACKETS[at]])
            net.take(at)
            self.check(net, PACKETS[:at] + PACKETS[at + 1:] + [PACKETS[at]])

    def test_move(self):
        for at in range(len(PACKETS)):
            net = net_of(PACKETS)
            self.assertIsNone(net.move(at))
            self.check(net, PACKETS[:at] + PACKETS[at + 1:] + [PACKETS[at]])
        net = net_of(PACKETS[:1])
        net.move(0)
        self.check(net, PACKETS[:1])

    def test_positions_without_a_packet(self):
        for packets in ([], PACKETS[:1], PACKETS):
            beyond = (len(packets), len(packets) + 1, MOST_NUMBER, -1, -2, -len(packets) - 1)
            for position in beyond + NO_INTEGERS:
                net = net_of(packets)
                for method in (net.take, net.double, net.move):
                    with self.assertRaises(BadSchedule) as caught:
                        method(position)
                    self.assertEqual((caught.exception.line, caught.exception.reason), (0, "position"))
                    self.check(net, packets)

    def test_the_list_may_be_changed_by_its_caller(self):
        net = net_of(PACKETS)
        found = net.packets()
        found.pop()
        found[0] = None
        self.check(net, PACKETS)
        net.send(*PACKETS[0])
        self.assertEqual(len(found), len(PACKETS) - 1)

    def test_networks_are_independent(self):
        one, other = Net(), net_of(PACKETS)
        self.check(one, [])
        one.send(*PACKETS[1])
        self.check(other, PACKETS)


if __name__ == "__main__":
    unittest.main()
