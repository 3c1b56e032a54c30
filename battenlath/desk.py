"""The calls on one object, and their answers."""

from battenlath.batten import Batten
from battenlath.quotient import lowest, nearest
from battenlath.reader import Reader
from battenlath.table import BY_LEVEL, BY_STATION, Table, verdict

MAKE = 1
AT = 2
NEAR = 3
PIECE = 4
BENDING = 5
TURNS = 6
TOP = 7

NO_TABLE = -5
WRONG_NUMBER = -1
NO_SUCH_PLACE = -4

LARGEST_Q = 1048576


class NoSuchCall(ValueError):
    """A call's number that is none of those above."""


class Desk:
    """The object: it has no table until one is made."""

    def __init__(self):
        self.table = None

    def refusal(self, way, k, others_right):
        """The first refusal of a call on line k, or 0; others_right: no other argument asks for -1."""
        if self.table is None:
            return NO_TABLE
        if way not in (BY_LEVEL, BY_STATION) or not others_right:
            return WRONG_NUMBER
        if not self.table.has_line(way, k):
            return NO_SUCH_PLACE
        return 0

    def batten(self, way, k):
        """The batten along a line that is there."""
        return Batten(self.table.nail_places(way), self.table.nail_breadths(way, k))

    def make(self, places, heights, breadths):
        """Takes these as the table, if they are one."""
        found = verdict(places, heights, breadths)
        if found == [0, 0]:
            self.table = Table(places, heights, breadths)
        return [0] + found

    def at(self, way, k, p, q, what):
        """Value, slope or bend at the place p / q."""
        refused = self.refusal(way, k, 1 <= q <= LARGEST_Q and 0 <= what <= 2)
        if refused != 0:
            return [refused]
        batten = self.batten(way, k)
        if not batten.covers(p, q):
            return [NO_SUCH_PLACE]
        found = batten.derived(p, q, what)
        return [0] + lowest(found[0], found[1])

    def near(self, way, k, x):
        """The value at x, to the nearest sixteenth."""
        refused = self.refusal(way, k, True)
        if refused != 0:
            return [refused]
        batten = self.batten(way, k)
        if not batten.covers(x, 1):
            return [NO_SUCH_PLACE]
        found = batten.derived(x, 1, 0)
        return [0, nearest(found[0], found[1])]

    def piece(self, way, k, i):
        """The four coefficients of the cubic from nail i on."""
        refused = self.refusal(way, k, True)
        if refused != 0:
            return [refused]
        batten = self.batten(way, k)
        if not batten.has_cubic(i):
            return [NO_SUCH_PLACE]
        cubic = batten.cubic(i)
        answer = [0]
        for coefficient in cubic[:4]:
            answer.extend(lowest(coefficient, cubic[4]))
        return answer

    def bending(self, way, k):
        """The integral of the bend times itself along the line."""
        refused = self.refusal(way, k, True)
        if refused != 0:
            return [refused]
        found = self.batten(way, k).bending()
        return [0] + lowest(found[0], found[1])

    def turns(self, way, k):
        """How often the bend changes its sign along the line."""
        refused = self.refusal(way, k, True)
        if refused != 0:
            return [refused]
        return [0, self.batten(way, k).turns()]

    def top(self, way, k):
        """The least whole number that the batten exceeds nowhere."""
        refused = self.refusal(way, k, True)
        if refused != 0:
            return [refused]
        return [0, self.batten(way, k).top()]


def answer_line_call(desk, call, reader):
    """Answers a call on a line: all of them begin with way and k."""
    way = reader.number()
    k = reader.number()
    if call == AT:
        p = reader.number()
        q = reader.number()
        what = reader.number()
        return desk.at(way, k, p, q, what)
    if call == NEAR:
        return desk.near(way, k, reader.number())
    if call == PIECE:
        return desk.piece(way, k, reader.number())
    if call == BENDING:
        return desk.bending(way, k)
    if call == TURNS:
        return desk.turns(way, k)
    if call == TOP:
        return desk.top(way, k)
    raise NoSuchCall("there is no such call")


def answer_call(desk, reader):
    """Reads the call that comes now, and answers it."""
    call = reader.number()
    if call == MAKE:
        places = reader.row()
        heights = reader.row()
        breadths = reader.row()
        return desk.make(places, heights, breadths)
    return answer_line_call(desk, call, reader)


def answers(calls):
    """The answers to the calls on a new object, each with its count before it."""
    desk = Desk()
    reader = Reader(calls)
    told = []
    while not reader.ended():
        answer = answer_call(desk, reader)
        told.append(len(answer))
        told.extend(answer)
    return told
