"""A tunnel: letters in epochs over a road that loses, repeats and overtakes them."""

from muffline.errors import BadTunnel, UnknownName
from muffline.forms import is_name

WIDEST_WINDOW = 64

LAST_EPOCH = 12


class Tunnel:
    """A sender and a receiver of numbered letters, and all letters that were sent."""

    def __init__(self, window, first, second):
        if not 1 <= window <= WIDEST_WINDOW or first == second or not is_name(first) or not is_name(second):
            raise BadTunnel()
        self.window = window
        self.first = first
        self.second = second
        self._letters = []
        self._epoch = 0
        self._sent = 0
        self._newest = 0
        # The counts that were taken in the newest epoch and in the one before it, with the greatest one of each.
        self._counts = ({}, {})
        self._tops = (-1, -1)
        self._received = []

    @property
    def received(self):
        """The numbers of the taken letters, in the order of taking."""
        return tuple(self._received)

    def send(self, payload):
        """Make the next letter and return its number."""
        if not is_name(payload):
            raise BadTunnel()
        self._letters.append((self._epoch, self._sent, payload))
        self._sent += 1
        return len(self._letters) - 1

    def rekey(self):
        """Begin the sender's next epoch."""
        if self._epoch == LAST_EPOCH:
            raise BadTunnel()
        self._epoch += 1
        self._sent = 0

    def deliver(self, number):
        """Hand a letter to the receiver, and return what becomes of it: old, late, again or taken."""
        epoch, count, _ = self.letter(number)
        if epoch < self._newest - 1:
            return "old"
        if epoch > self._newest:
            self._renew(epoch)
        return self._judged(self._newest - epoch, number, count)

    def _renew(self, epoch):
        """Make an epoch the newest one; of the one before it is known what was taken if it was the newest."""
        if epoch == self._newest + 1:
            self._counts = ({}, self._counts[0])
            self._tops = (-1, self._tops[0])
        else:
            self._counts = ({}, {})
            self._tops = (-1, -1)
        self._newest = epoch

    def _judged(self, back, number, count):
        """Judge a letter of the newest epoch (0 back) or of the one before it (1 back)."""
        top = self._tops[back]
        if count <= top - self.window:
            return "late"
        if count in self._counts[back]:
            return "again"
        self._counts[back][count] = True
        if count > top:
            self._tops = (count, self._tops[1]) if back == 0 else (self._tops[0], count)
        self._received.append(number)
        return "taken"

    def letter(self, number):
        """Return (epoch, count, payload) of a letter."""
        if not 0 <= number < len(self._letters):
            raise UnknownName()
        return self._letters[number]

    def key_term(self, epoch):
        """Return the key of an epoch."""
        key = ("both", *sorted([self.first, self.second]))
        for _ in range(epoch):
            key = ("digest", ("pair", key, ("word", "next")))
        return key

    def sealed(self, number):
        """Return the term that goes over the road for a letter."""
        epoch, count, payload = self.letter(number)
        return ("lock", ("pair", ("road", count), ("mark", 0, payload)), self.key_term(epoch))

    def sealed_row(self):
        """Return the sealed letters in the order of sending."""
        return tuple([self.sealed(number) for number in range(len(self._letters))])
