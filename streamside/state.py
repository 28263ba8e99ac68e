"""What a side knows."""

NO_PHASE = 0
WAITS = 1
HAS_BEGUN = 2
HAS_ANSWERED = 3
IS_OPEN = 4
LINGERS = 5
IS_OVER = 6

BOTH_ENDED = 1
RESET_BY_OTHER = 2
NOBODY_ANSWERS = 3
RESET_HERE = 4

MOST_WIDE = 1048576
MOST_WAIT = 60000
LINGER_TIME = 60000


class Side:
    """One side. A place of 0 where nothing is timed or mended, a time of None where nothing is due."""

    def __init__(self):
        self.now = 0
        self.out = []
        self.renew()

    def renew(self):
        """A new side; time alone stays what it was."""
        self.phase = NO_PHASE
        self.why = 0
        self.name_ends(0, 0, 0)
        self.name_other(0, 0, 0)
        self.renew_sent()
        self.renew_pace()
        self.renew_come()
        self.lingers_until = None
        self.kept = 0
        self.hear()

    def name_ends(self, me, mine, base):
        self.me = me
        self.mine = mine
        self.base = base

    def name_other(self, them, theirs, their_base):
        self.them = them
        self.theirs = theirs
        self.their_base = their_base

    def renew_sent(self):
        self.unacked = []
        self.last = 1
        self.closing = False
        self.first = 0
        self.next_place = 0
        self.top = 0
        self.room = 0
        self.held = []

    def renew_pace(self):
        self.wide = 5600
        self.slow = MOST_WIDE
        self.same = 0
        self.mending = 0
        self.anew = 0
        self.mean = 0
        self.off = 0
        self.was_measured = False
        self.wait = 1000
        self.timed_place = 0
        self.timed_since = 0
        self.due = None
        self.tries = 0

    def renew_come(self):
        self.wanted = 0
        self.unread = []
        self.pieces = []
        self.end_place = None
        self.has_ended = False
        self.closed_first = False
        self.edge = 0
        self.owed = 0
        self.ack_due = None

    def is_linked(self):
        """Whether both bases are known and it isn't over."""
        return HAS_ANSWERED <= self.phase <= LINGERS

    def unacked_place(self):
        """The place of the first byte that isn't acked, or would be if there were one."""
        return self.last - len(self.unacked)

    def hear(self):
        self.heard = self.now
        self.askings = 0

    def put_off(self):
        """Something is due after wait."""
        self.due = self.now + self.wait

    def time_place(self, place):
        self.timed_place = place
        self.timed_since = self.now

    def time_nothing(self):
        self.timed_place = 0

    def widen(self, more):
        self.wide = min(MOST_WIDE, self.wide + more)

    def halve_slow(self):
        self.slow = max(2800, (self.top - self.first) // 2)

    def linger(self):
        self.phase = LINGERS
        self.lingers_until = self.now + LINGER_TIME

    def finish(self, why):
        self.phase = IS_OVER
        self.why = why
        self.due = None
        self.time_nothing()
        self.owed = 0
