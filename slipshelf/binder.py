"""The calls on one object that keeps slips, and what they answer."""

LAST_DAY = 292193
LAST_READER = 65535
LAST_FILE = 16383
MOST_FILES = 8
MOST_DAYS = 1000
MOST_SLIPS = 64
MOST_ENTRIES = 512

# The refusals, in the order in which they are looked for.
OUT_OF_BOUNDS = -1
TOO_EARLY = -3
NO_SLIP = -4
NOT_SO = -5
NO_ROOM = -6

BEGIN = 1
ASK = 2
BACK = 3
DROP = 4
COUNT = 5
WHO = 6
SLIP = 7
FILES = 8
WAITS = 9
LATE = 10

# By a call's number: how many numbers it has, its own among them, but for the files of its row.
CALL_LENGTHS = {1: 1, 2: 5, 3: 3, 4: 3, 5: 2, 6: 3, 7: 3, 8: 3, 9: 3, 10: 3, 11: 4}

# What has become of a slip.
WAITING = 0
OUT = 1
DONE = 2
WITHDRAWN = 3

NEVER = -1


def befell(day, k):
    """Whether what happened on that day, or never, has happened by day k."""
    return day != NEVER and day <= k


def share(files, others):
    """Whether one of the files is among the others."""
    return any([f in others for f in files])


class Slip:
    """A slip. What happens to it is kept with its day and never written over: so what an earlier day knows stays."""

    def __init__(self, number, asked, reader, days, files):
        self.number = number
        self.asked = asked
        self.reader = reader
        self.days = days
        self.files = files
        self.served = NEVER
        self.withdrawn = NEVER
        self.returned = {}

    def waits(self, k):
        """Whether it waits, known by day k."""
        if self.asked > k:
            return False
        return not befell(self.served, k) and not befell(self.withdrawn, k)

    def held(self, k):
        """Its files that are out with it, known by day k."""
        if not befell(self.served, k):
            return []
        return [f for f in self.files if not self.brought(f, k)]

    def brought(self, f, k):
        """Whether its file f is back, known by day k."""
        return befell(self.returned.get(f, NEVER), k)

    def kept(self, k):
        """The files that it keeps from later slips, known by day k: those it waits for, or those it has."""
        if self.waits(k):
            return self.files
        return self.held(k)

    def state(self, k):
        """What has become of it, known by day k."""
        if self.waits(k):
            return WAITING
        if befell(self.withdrawn, k):
            return WITHDRAWN
        if len(self.held(k)) > 0:
            return OUT
        return DONE

    def due(self):
        """The day when its files are due, once it is served."""
        return self.served + self.days


class Shelf:
    """The object: its slips by number, how many entries it holds, and the day of the last one."""

    def __init__(self):
        self.begin()

    def begin(self):
        """Make it new: no entries, so no slips."""
        self.slips = []
        self.entries = 0
        self.last = 0

    def full(self):
        """Whether it has no room for one more entry."""
        return self.entries >= MOST_ENTRIES

    def out(self, k):
        """The files that are out, known by day k, each with its slip."""
        found = {}
        for slip in self.slips:
            for f in slip.held(k):
                found[f] = slip
        return found

    def known(self, k, q):
        """Slip q, known by day k, or None."""
        if q < len(self.slips) and self.slips[q].asked <= k:
            return self.slips[q]
        return None

    def enter(self, day):
        """Count one more entry, of that day, and serve behind it; answer how many slips are served."""
        self.entries += 1
        self.last = day
        return self.serve(day)

    def serve(self, day):
        """Serve the slips that can be served on that day; answer how many."""
        kept = self.out(day)
        served = 0
        for slip in self.slips:
            if slip.waits(day):
                if not share(slip.files, kept):
                    slip.served = day
                    served += 1
                # Served or still waiting, it keeps its files from every later slip: so one walk is enough.
                for f in slip.files:
                    kept[f] = slip
        return served

    def latest(self, k, q, x):
        """The day when slip q, which waits, is served at the latest from day x on, known by day k."""
        free = {}
        for f, holder in self.out(k).items():
            free[f] = max(holder.due(), x)
        day = x
        for slip in self.slips[:q + 1]:
            if slip.waits(k):
                # No later slip takes a file ahead of it: it is served when those before it are done with the last one.
                day = max([free.get(f, x) for f in slip.files])
                for f in slip.files:
                    free[f] = day + slip.days
        return day


def files_fit(files):
    """Whether a slip may ask for this row of files."""
    if len(files) < 1 or len(files) > MOST_FILES:
        return False
    before = -1
    for f in files:
        if f <= before or f > LAST_FILE:
            return False
        before = f
    return True


def slip_fits(reader, days, files):
    """Whether a slip may have this reader, so many days and these files."""
    if reader < 1 or reader > LAST_READER:
        return False
    if days < 1 or days > MOST_DAYS:
        return False
    return files_fit(files)


def ask(shelf, d, reader, days, files):
    """Write a slip; answer its number."""
    if d > LAST_DAY or not slip_fits(reader, days, files):
        return [OUT_OF_BOUNDS]
    if d < shelf.last:
        return [TOO_EARLY]
    number = len(shelf.slips)
    if number >= MOST_SLIPS or shelf.full():
        return [NO_ROOM]
    shelf.slips.append(Slip(number, d, reader, days, files))
    shelf.enter(d)
    return [number]


def back(shelf, d, f):
    """Bring a file back; answer how many slips are served by it."""
    if d > LAST_DAY or f > LAST_FILE:
        return [OUT_OF_BOUNDS]
    if d < shelf.last:
        return [TOO_EARLY]
    slip = shelf.out(d).get(f)
    if slip is None:
        return [NOT_SO]
    if shelf.full():
        return [NO_ROOM]
    slip.returned[f] = d
    return [shelf.enter(d)]


def drop(shelf, d, q):
    """Withdraw slip q; answer how many slips are served by it."""
    if d > LAST_DAY:
        return [OUT_OF_BOUNDS]
    if d < shelf.last:
        return [TOO_EARLY]
    slip = shelf.known(d, q)
    if slip is None:
        return [NO_SLIP]
    if not slip.waits(d):
        return [NOT_SO]
    if shelf.full():
        return [NO_ROOM]
    slip.withdrawn = d
    return [shelf.enter(d)]


def count(shelf, k):
    """Answer how many slips are known by day k, and how many of them wait."""
    if k > LAST_DAY:
        return [OUT_OF_BOUNDS]
    known = [slip for slip in shelf.slips if slip.asked <= k]
    waiting = [slip for slip in shelf.slips if slip.waits(k)]
    return [len(known), len(waiting)]


def who(shelf, k, f):
    """Answer who has file f, known by day k: 1, slip, reader, since, due; or 0: it is in."""
    if k > LAST_DAY or f > LAST_FILE:
        return [OUT_OF_BOUNDS]
    slip = shelf.out(k).get(f)
    if slip is None:
        return [0]
    return [1, slip.number, slip.reader, slip.served, slip.due()]


def tell_slip(shelf, k, q):
    """Answer what is known of slip q by day k: 0, asked, served, days, reader, state, its files that are back."""
    if k > LAST_DAY:
        return [OUT_OF_BOUNDS]
    slip = shelf.known(k, q)
    if slip is None:
        return [NO_SLIP]
    served = slip.served if befell(slip.served, k) else NEVER
    told = [0, slip.asked, served, slip.days, slip.reader, slip.state(k)]
    return told + [f for f in slip.files if slip.brought(f, k)]


def tell_files(shelf, k, q):
    """Answer how many files slip q asks for, and which."""
    if k > LAST_DAY:
        return [OUT_OF_BOUNDS]
    slip = shelf.known(k, q)
    if slip is None:
        return [NO_SLIP]
    return [len(slip.files)] + slip.files


def waits_for(shelf, k, q):
    """Answer how many slips keep slip q from being served, known by day k, and which."""
    if k > LAST_DAY:
        return [OUT_OF_BOUNDS]
    slip = shelf.known(k, q)
    if slip is None:
        return [NO_SLIP]
    if not slip.waits(k):
        return [NOT_SO]
    # While it waits no later slip comes by one of its files, so the earlier ones are all.
    found = [other.number for other in shelf.slips[:q] if share(slip.files, other.kept(k))]
    return [len(found)] + found


def late(shelf, k, x):
    """Answer how many files are out, known by day k, and due before day x, and which."""
    if k > LAST_DAY or x > LAST_DAY:
        return [OUT_OF_BOUNDS]
    overdue = []
    for f, slip in shelf.out(k).items():
        if slip.due() < x:
            overdue.append((slip.due(), f))
    return [len(overdue)] + [pair[1] for pair in sorted(overdue)]


def when(shelf, k, q, x):
    """Answer 0 and the day when slip q is served at the latest from day x on, known by day k."""
    if k > LAST_DAY or x > LAST_DAY:
        return [OUT_OF_BOUNDS]
    if x < k:
        return [TOO_EARLY]
    slip = shelf.known(k, q)
    if slip is None:
        return [NO_SLIP]
    if not slip.waits(k):
        return [NOT_SO]
    return [0, shelf.latest(k, q, x)]


def call_length(calls, at):
    """How many numbers the call has that begins at this place of the list."""
    length = CALL_LENGTHS[calls[at]]
    if calls[at] == ASK:
        # The last number before the files says how many they are.
        length += calls[at + length - 1]
    return length


def answer_of(shelf, call):
    """What one call answers, as a list of numbers."""
    if call[0] == BEGIN:
        shelf.begin()
        return [0]
    if call[0] == ASK:
        return ask(shelf, call[1], call[2], call[3], call[5:])
    if call[0] == BACK:
        return back(shelf, call[1], call[2])
    if call[0] == DROP:
        return drop(shelf, call[1], call[2])
    if call[0] == COUNT:
        return count(shelf, call[1])
    if call[0] == WHO:
        return who(shelf, call[1], call[2])
    if call[0] == SLIP:
        return tell_slip(shelf, call[1], call[2])
    if call[0] == FILES:
        return tell_files(shelf, call[1], call[2])
    if call[0] == WAITS:
        return waits_for(shelf, call[1], call[2])
    if call[0] == LATE:
        return late(shelf, call[1], call[2])
    return when(shelf, call[1], call[2], call[3])


def answers(calls):
    """Answer a list of calls on one new object: for each, how many numbers are answered, and these."""
    shelf = Shelf()
    told = []
    at = 0
    while at < len(calls):
        length = call_length(calls, at)
        answer = answer_of(shelf, calls[at:at + length])
        told.append(len(answer))
        told.extend(answer)
        at += length
    return told
