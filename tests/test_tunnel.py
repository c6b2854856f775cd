"""Points [41] to [43]: tunnels."""

import inspect
import itertools
import random
import unittest

from muffline.errors import BadTunnel, MuffError, UnknownName
from muffline.recipes import opened, reachable
from muffline.tunnel import Tunnel
from tests import plain

NO_NAMES = ("", "A", "Ann", "ann1", "abcdefghi", "a b", " ann", "ann ", "a-b", "0", "ann\n")


def key_of(epoch, first="ann", second="bob"):
    """The key of an epoch, written out."""
    if epoch == 0:
        return ("both", min(first, second), max(first, second))
    return ("digest", ("pair", key_of(epoch - 1, first, second), ("word", "next")))


def tunnel_of(window, counts):
    """A tunnel with so many letters in each of its epochs, all with the payload n."""
    tunnel = Tunnel(window, "ann", "bob")
    for epoch, many in enumerate(counts):
        if epoch > 0:
            tunnel.rekey()
        for _ in range(many):
            tunnel.send("n")
    return tunnel


def number_of(tunnel, epoch, count):
    """The number of the letter with an epoch and a count."""
    return next(number for number in itertools.count() if tunnel.letter(number)[:2] == (epoch, count))


class Receiver:
    """The receiver in the plainest way: it keeps all that it took, and forgets what it must."""

    def __init__(self, window):
        self.window = window
        self.newest = 0
        self.taken = {}
        self.received = []

    def deliver(self, number, epoch, count):
        if epoch < self.newest - 1:
            return "old"
        if epoch > self.newest:
            self.taken = {old: counts for old, counts in self.taken.items() if old == self.newest == epoch - 1}
            self.newest = epoch
        counts = self.taken.setdefault(epoch, set())
        if count <= max(counts, default=-1) - self.window:
            return "late"
        if count in counts:
            return "again"
        counts.add(count)
        self.received.append(number)
        return "taken"


class Making(unittest.TestCase):
    def test_attributes(self):
        tunnel = Tunnel(5, "zed", "bob")
        self.assertEqual((tunnel.window, tunnel.first, tunnel.second, tunnel.received), (5, "zed", "bob", ()))
        tunnel = Tunnel(window=64, first="a", second="abcdefgh")
        self.assertEqual((tunnel.window, tunnel.first, tunnel.second), (64, "a", "abcdefgh"))
        self.assertIsInstance(Tunnel.received, property)
        self.assertEqual(tunnel.sealed_row(), ())

    def test_windows(self):
        for window in range(1, 65):
            self.assertEqual(Tunnel(window, "ann", "bob").window, window)
        for window in (0, -1, -64, 65, 66, 1000, 10 ** 20):
            with self.assertRaises(BadTunnel):
                Tunnel(window, "ann", "bob")

    def test_hosts(self):
        for first, second in (("ann", "ann"), ("a", "a")):
            with self.assertRaises(BadTunnel):
                Tunnel(1, first, second)
        for wrong in NO_NAMES:
            for first, second in ((wrong, "bob"), ("bob", wrong), (wrong, wrong)):
                with self.assertRaises(BadTunnel):
                    Tunnel(1, first, second)

    def test_two_tunnels_share_nothing(self):
        one, other = Tunnel(3, "ann", "bob"), Tunnel(3, "ann", "bob")
        one.send("n")
        one.rekey()
        one.send("n")
        one.deliver(1)
        self.assertEqual((other.received, other.sealed_row()), ((), ()))
        self.assertEqual(other.send("m"), 0)
        self.assertEqual(other.letter(0), (0, 0, "m"))
        self.assertEqual(other.deliver(0), "taken")
        self.assertEqual((one.received, other.received), ((1,), (0,)))


class Sending(unittest.TestCase):
    def test_numbers_epochs_and_counts(self):
        tunnel = Tunnel(2, "ann", "bob")
        expected = []
        for epoch in range(13):
            for count in range(epoch % 3 + 1):
                self.assertEqual(tunnel.send("ab"[count % 2]), len(expected))
                expected.append((epoch, count, "ab"[count % 2]))
            if epoch < 12:
                self.assertIsNone(tunnel.rekey())
        self.assertEqual([tunnel.letter(number) for number in range(len(expected))], expected)
        self.assertEqual(tunnel.letter(number=0), (0, 0, "a"))
        for _ in range(2):
            with self.assertRaises(BadTunnel):
                tunnel.rekey()
        self.assertEqual(tunnel.send(payload="z"), len(expected))
        self.assertEqual(tunnel.letter(len(expected)), (12, 1, "z"))

    def test_epochs_without_letters(self):
        tunnel = tunnel_of(1, (0, 0, 2, 0, 1))
        self.assertEqual([tunnel.letter(number) for number in range(3)], [(2, 0, "n"), (2, 1, "n"), (4, 0, "n")])

    def test_payloads(self):
        tunnel = Tunnel(2, "ann", "bob")
        for payload in ("a", "abcdefgh", "z", "next", "ann"):
            tunnel.send(payload)
        for wrong in NO_NAMES:
            with self.assertRaises(BadTunnel):
                tunnel.send(wrong)
        self.assertEqual(tunnel.send("ok"), 5)
        self.assertEqual(tunnel.letter(5), (0, 5, "ok"))

    def test_letters_that_do_not_exist(self):
        tunnel = Tunnel(2, "ann", "bob")
        for many in range(3):
            for number in (-1, -many, many, many + 1, 10 ** 20):
                if number not in range(many):
                    for method in (tunnel.letter, tunnel.sealed, tunnel.deliver):
                        with self.assertRaises(UnknownName):
                            method(number)
            tunnel.send("n")
        self.assertEqual(tunnel.received, ())


class Delivering(unittest.TestCase):
    def deliver(self, tunnel, *letters):
        """What becomes of letters, given by (epoch, count)."""
        return [tunnel.deliver(number_of(tunnel, epoch, count)) for epoch, count in letters]

    def test_in_order(self):
        tunnel = tunnel_of(1, (3, 2))
        self.assertEqual([tunnel.deliver(number) for number in range(5)], ["taken"] * 5)
        self.assertEqual(tunnel.received, (0, 1, 2, 3, 4))

    def test_again(self):
        tunnel = tunnel_of(3, (5,))
        self.assertEqual(self.deliver(tunnel, (0, 2), (0, 2), (0, 0), (0, 0), (0, 1), (0, 2), (0, 1)), ["taken", "again", "taken", "again", "taken", "again", "again"])
        self.assertEqual(tunnel.received, (2, 0, 1))

    def test_late(self):
        for window in (1, 2, 5, 63, 64):
            tunnel = tunnel_of(window, (170,))
            self.assertEqual(self.deliver(tunnel, (0, 100), (0, 100 - window), (0, 0)), ["taken", "late", "late"])
            if window > 1:
                self.assertEqual(self.deliver(tunnel, (0, 101 - window), (0, 101 - window)), ["taken", "again"])
            # What was taken and is behind the window is late, too.
            self.assertEqual(self.deliver(tunnel, (0, 100 + window), (0, 100), (0, 101)), ["taken", "late", "again" if window == 1 else "taken"])

    def test_a_window_of_one(self):
        tunnel = tunnel_of(1, (4,))
        self.assertEqual(self.deliver(tunnel, (0, 1), (0, 0), (0, 1), (0, 3), (0, 2), (0, 3)), ["taken", "late", "again", "taken", "late", "again"])

    def test_the_top_goes_up_alone(self):
        tunnel = tunnel_of(3, (9,))
        self.assertEqual(self.deliver(tunnel, (0, 5), (0, 3), (0, 2), (0, 4), (0, 2)), ["taken", "taken", "late", "taken", "late"])

    def test_the_next_epoch(self):
        tunnel = tunnel_of(2, (5, 5))
        self.assertEqual(self.deliver(tunnel, (0, 3), (1, 0), (0, 3), (0, 2), (0, 1), (0, 4), (0, 2), (0, 3)),
                         ["taken", "taken", "again", "taken", "late", "taken", "late", "again"])
        self.assertEqual(self.deliver(tunnel, (1, 4), (1, 3), (1, 2), (1, 3)), ["taken", "taken", "late", "again"])

    def test_old(self):
        tunnel = tunnel_of(2, (3, 3, 3, 3))
        self.assertEqual(self.deliver(tunnel, (0, 0), (1, 0), (2, 0), (0, 0), (0, 1), (1, 0), (1, 1), (3, 0), (1, 1), (1, 2), (2, 0), (2, 1)),
                         ["taken", "taken", "taken", "old", "old", "again", "taken", "taken", "old", "old", "again", "taken"])

    def test_an_epoch_that_is_passed_over(self):
        # Nothing is taken in the epoch before the newest one, and letters of it are taken after this.
        tunnel = tunnel_of(2, (3, 3, 3))
        self.assertEqual(self.deliver(tunnel, (0, 2), (2, 0), (0, 1), (0, 2), (1, 2), (1, 0), (1, 1), (1, 2)),
                         ["taken", "taken", "old", "old", "taken", "late", "taken", "again"])

    def test_what_was_taken_is_remembered_only_if_the_epoch_was_the_newest(self):
        tunnel = tunnel_of(2, (3, 3, 3, 3, 3))
        # Epoch 1 takes letters while epoch 2 is the newest; it is old when epoch 3 comes, and epoch 2 is remembered.
        self.assertEqual(self.deliver(tunnel, (2, 1), (1, 1), (3, 0), (1, 1), (1, 2), (2, 1), (2, 0)),
                         ["taken", "taken", "taken", "old", "old", "again", "taken"])
        # From 1 to 3: epoch 2 has nothing taken, also where it might have had.
        tunnel = tunnel_of(5, (3, 3, 3, 3))
        self.assertEqual(self.deliver(tunnel, (1, 0), (0, 0), (3, 1), (2, 0), (2, 0), (1, 1)), ["taken", "taken", "taken", "taken", "again", "old"])

    def test_far_jumps(self):
        tunnel = tunnel_of(2, (1,) * 13)
        self.assertEqual(self.deliver(tunnel, (0, 0), (12, 0), (11, 0), (10, 0), (0, 0), (12, 0), (11, 0)),
                         ["taken", "taken", "taken", "old", "old", "again", "again"])
        self.assertEqual(tunnel.received, (0, 12, 11))

    def test_the_first_letter_of_all_is_of_a_later_epoch(self):
        for epoch in range(1, 13):
            tunnel = tunnel_of(4, (2,) * 13)
            expected = ["taken", "taken", "old", "old"]
            letters = [(epoch, 1), (epoch - 1, 1), (epoch - 2, 1), (0, 0)]
            if epoch == 1:
                letters, expected = letters[:2], expected[:2]
            self.assertEqual(self.deliver(tunnel, *letters), expected)

    def test_the_receiver_does_not_follow_the_sender(self):
        tunnel = tunnel_of(2, (2, 0, 0, 0))
        self.assertEqual(self.deliver(tunnel, (0, 0), (0, 1)), ["taken", "taken"])
        tunnel.rekey()
        tunnel.send("m")
        self.assertEqual(tunnel.deliver(2), "taken")
        self.assertEqual(tunnel.deliver(0), "old")

    def test_directly_after_sending(self):
        chance = random.Random(141)
        for window in (1, 7, 64):
            tunnel = Tunnel(window, "ann", "bob")
            for _ in range(200):
                if chance.random() < 0.05 and not (tunnel.sealed_row() and tunnel.letter(len(tunnel.sealed_row()) - 1)[0] >= 11):
                    tunnel.rekey()
                self.assertEqual(tunnel.deliver(tunnel.send("n")), "taken")
            self.assertEqual(tunnel.received, tuple(range(200)))

    def test_by_chance(self):
        chance = random.Random(142)
        words = {}
        for _ in range(300):
            window = chance.choice((1, 2, 3, 8, 64))
            tunnel, receiver = Tunnel(window, "ann", "bob"), Receiver(window)
            letters, epoch, count = [], 0, 0
            seen = set()
            for _ in range(chance.randint(1, 80)):
                way = chance.random()
                if way < 0.4 or not letters:
                    letters.append((epoch, count))
                    self.assertEqual(tunnel.send("n"), len(letters) - 1)
                    count += 1
                elif way < 0.5 and epoch < 12:
                    tunnel.rekey()
                    epoch, count = epoch + 1, 0
                else:
                    number = chance.randrange(max(0, len(letters) - 12), len(letters))
                    word = tunnel.deliver(number=number)
                    self.assertEqual(word, receiver.deliver(number, *letters[number]))
                    self.assertEqual(word in ("taken", "old", "late"), word != "again")
                    if number not in seen:
                        self.assertNotEqual(word, "again")
                    seen.add(number)
                    words[word] = words.get(word, 0) + 1
            self.assertEqual(tunnel.received, tuple(receiver.received))
            self.assertEqual(len(set(tunnel.received)), len(tunnel.received))
        self.assertGreater(min(words.values()), 100)

    def test_many_letters(self):
        tunnel = tunnel_of(64, (5000,))
        self.assertEqual(tunnel.deliver(4999), "taken")
        self.assertEqual([tunnel.deliver(number) for number in range(4930, 4940)], ["late"] * 6 + ["taken"] * 4)


class Unchanged(unittest.TestCase):
    def state(self, tunnel, many):
        return ([tunnel.letter(number) for number in range(many)], tunnel.sealed_row(), tunnel.received, tunnel.window, tunnel.first, tunnel.second)

    def test_methods_that_raise(self):
        tunnel = tunnel_of(2, (3,) + (0,) * 12)
        tunnel.deliver(1)
        before = self.state(tunnel, 3)
        for method, args in (("send", ("Ann",)), ("send", ("",)), ("rekey", ()), ("deliver", (3,)), ("deliver", (-1,)), ("letter", (3,)), ("letter", (-1,)),
                             ("sealed", (3,)), ("sealed", (-3,))):
            for _ in range(2):
                with self.assertRaises(MuffError):
                    getattr(tunnel, method)(*args)
                self.assertEqual(self.state(tunnel, 3), before)
        self.assertEqual(tunnel.deliver(1), "again")
        self.assertEqual(tunnel.deliver(0), "taken")
        self.assertEqual(tunnel.send("n"), 3)
        self.assertEqual(tunnel.letter(3), (12, 0, "n"))


class Keys(unittest.TestCase):
    def test_key_terms(self):
        for first, second in (("ann", "bob"), ("bob", "ann"), ("z", "ab"), ("ab", "aa")):
            tunnel = Tunnel(1, first, second)
            for epoch in range(13):
                self.assertEqual(tunnel.key_term(epoch), key_of(epoch, first, second))
        self.assertEqual(tunnel.key_term(epoch=0), ("both", "aa", "ab"))
        self.assertEqual(inspect.signature(tunnel.key_term).parameters.keys(), {"epoch"})

    def test_sealed_letters(self):
        tunnel = Tunnel(3, "zed", "ann")
        tunnel.send("n")
        tunnel.rekey()
        tunnel.rekey()
        tunnel.send("m")
        tunnel.send("n")
        key = key_of(2, "ann", "zed")
        expected = (
            ("lock", ("pair", ("road", 0), ("mark", 0, "n")), ("both", "ann", "zed")), ("lock", ("pair", ("road", 0), ("mark", 0, "m")), key),
            ("lock", ("pair", ("road", 1), ("mark", 0, "n")), key),
        )
        self.assertEqual(tunnel.sealed_row(), expected)
        self.assertEqual([tunnel.sealed(number=number) for number in range(3)], list(expected))
        # What the receiver does changes nothing here.
        tunnel.deliver(2)
        self.assertEqual(tunnel.sealed_row(), expected)

    def test_what_the_road_can_reach(self):
        good = ("ann", "bob")
        tunnel = Tunnel(3, "bob", "ann")
        payloads = [("a", "common"), ("b",), (), ("c", "a"), ("d",)]
        for epoch, names in enumerate(payloads):
            for name in names:
                tunnel.send(name)
            if epoch < 4:
                tunnel.rekey()
        row = tunnel.sealed_row()
        for name in ("a", "b", "c", "d", "common"):
            self.assertIs(reachable(good, row, ("mark", 0, name)), False)
        self.assertEqual(opened(good, row), plain.opened(good, row))
        for epoch in range(7):
            known = row + (tunnel.key_term(epoch),)
            for name in ("a", "b", "c", "d", "common"):
                later = any(name in names for names in payloads[epoch:])
                self.assertIs(reachable(good, known, ("mark", 0, name)), later, (epoch, name))
            for other in range(13):
                self.assertIs(reachable(good, known, tunnel.key_term(other)), other >= epoch)
                forged = ("lock", ("pair", ("road", 77), ("mark", 0, "d")), tunnel.key_term(other))
                self.assertIs(reachable(good, known, forged), other >= epoch and epoch <= 4)
            for sealed in row:
                self.assertIs(reachable(good, known, sealed), True)


if __name__ == "__main__":
    unittest.main()
