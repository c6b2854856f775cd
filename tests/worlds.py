"""Worlds and claims that several tests use."""

from muffline.notation import read_role_term as read
from muffline.worlds import World

AB = ("A", "B")
GOOD = ("ann", "bob")


def steps_of(*texts):
    """Steps such as "send (word hi)"."""
    return tuple((text[:4], read(text[5:])) for text in texts)


def role(name, *texts, parameters=AB):
    return (name, parameters, steps_of(*texts))


ASK = role("ask", "send (box (pair (mark n) (host A)) B)", "take (box (pair (mark n) (var x)) A)", "send (box (var x) B)")
ANSWER = role("answer", "take (box (pair (var y) (host A)) B)", "send (box (pair (var y) (mark m)) A)",
              "take (box (mark m) B)", parameters=("B", "A"))
# As above, but with the host's name in the second letter.
ASK_BY_NAME = role("ask", "send (box (pair (mark n) (host A)) B)",
                   "take (box (pair (mark n) (pair (var x) (host B))) A)", "send (box (var x) B)")
ANSWER_BY_NAME = role("answer", "take (box (pair (var y) (host A)) B)",
                      "send (box (pair (var y) (pair (mark m) (host B))) A)", "take (box (mark m) B)", parameters=("B", "A"))
GIVE = role("give", "send (lock (mark n) (both A B))")
GET = role("get", "take (lock (var x) (both A B))", parameters=("B", "A"))
GET_TWICE = role("gets", "take (lock (var x) (both A B))", "send (digest (var x))", parameters=("B", "A"))
ECHO = role("echo", "take (var x)", "send (digest (var x))", parameters=("A",))
KEYS = role("keys", "send (lock (mark n) (mark k))", "send (lock (mark k) (both A B))", "take (digest (mark k))")
STAMPED = role("stamped", "send (stamp (pair (mark n) (host B)) A)", "take (stamp (pair (mark n) (var x)) B)")
STAMPER = role("stamper", "take (stamp (pair (var y) (host B)) A)", "send (stamp (pair (var y) (mark m)) B)",
               parameters=("B", "A"))
SHOW = role("show", "send (mark n)", parameters=("A",))
IDLE = role("idle", parameters=("A",))


def world(roles, *sessions, good=GOOD):
    """A world with sessions such as "ask ann bob"."""
    split = [session.split(" ") for session in sessions]
    return World(tuple(roles), tuple((words[0], tuple(words[1:])) for words in split), good)
