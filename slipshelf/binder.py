"""The calls on one object that keeps slips, and what they answer."""

LAST_DAY = 292193
LAST_READER = 65535
LAST_FILE = 16383
MOST_FILES = 8
MOST_DAYS = 1000
MOST_SLIPS = 64
MOST_ENTRIES = 512

# The refusals, in the order in which they are looked for.
OUT_OF_BOUNDS = -1
TOO_EARLY = -3
NO_SLIP = -4
NOT_SO = -5
NO_ROOM = -6

BEGIN = 1
ASK = 2
BACK = 3
DROP = 4
COUNT = 5
WHO = 6

# By a call's number: how many numbers it has, its own among them, but for the files of its row.
CALL_LENGTHS = {1: 1, 2: 5, 3: 3, 4: 3, 5: 2, 6: 3}

NEVER = -1


def befell(day, k):
    """Whether what happened on that day, or never, has happened by day k."""
    return day != NEVER and day <= k


class Slip:
    """A slip. What happens to it is kept with its day and never written over: so what an earlier day knows stays."""

    def __init__(self, number, asked, reader, days, files):
        self.number = number
        self.asked = asked
        self.reader = reader
        self.days = days
        self.files = files
        self.served = NEVER
        self.withdrawn = NEVER
        self.returned = {}

    def waits(self, k):
        """Whether it waits, known by day k."""
        if self.asked > k:
            return False
        return not befell(self.served, k) and not befell(self.withdrawn, k)

    def held(self, k):
        """Its files that are out with it, known by day k."""
        if not befell(self.served, k):
            return []
        return [f for f in self.files if not befell(self.returned.get(f, NEVER), k)]

    def due(self):
        """The day when its files are due, once it is served."""
        return self.served + self.days


class Shelf:
    """The object: its slips by number, how many entries it holds, and the day of the last one."""

    def __init__(self):
        self.begin()

    def begin(self):
        """Make it new: no entries, so no slips."""
        self.slips = []
        self.entries = 0
        self.last = 0

    def full(self):
        """Whether it has no room for one more entry."""
        return self.entries >= MOST_ENTRIES

    def out(self, k):
        """The files that are out, known by day k, each with its slip."""
        found = {}
        for slip in self.slips:
            for f in slip.held(k):
                found[f] = slip
        return found

    def enter(self, day):
        """Count one more entry, of that day, and serve behind it; answer how many slips are served."""
        self.entries += 1
        self.last = day
        return self.serve(day)

    def serve(self, day):
        """Serve the slips that can be served on that day; answer how many."""
        kept = self.out(day)
        served = 0
        for slip in self.slips:
            if slip.waits(day):
                if not any([f in kept for f in slip.files]):
                    slip.served = day
                    served += 1
                # Served or still waiting, it keeps its files from every later slip: so one walk is enough.
                for f in slip.files:
                    kept[f] = slip
        return served


def files_fit(files):
    """Whether a slip may ask for this row of files."""
    if len(files) < 1 or len(files) > MOST_FILES:
        return False
    before = -1
    for f in files:
        if f <= before or f > LAST_FILE:
            return False
        before = f
    return True


def slip_fits(reader, days, files):
    """Whether a slip may have this reader, so many days and these files."""
    if reader < 1 or reader > LAST_READER:
        return False
    if days < 1 or days > MOST_DAYS:
        return False
    return files_fit(files)


def ask(shelf, d, reader, days, files):
    """Write a slip; answer its number."""
    if d > LAST_DAY or not slip_fits(reader, days, files):
        return [OUT_OF_BOUNDS]
    if d < shelf.last:
        return [TOO_EARLY]
    number = len(shelf.slips)
    if number >= MOST_SLIPS or shelf.full():
        return [NO_ROOM]
    shelf.slips.append(Slip(number, d, reader, days, files))
    shelf.enter(d)
    return [number]


def back(shelf, d, f):
    """Bring a file back; answer how many slips are served by it."""
    if d > LAST_DAY or f > LAST_FILE:
        return [OUT_OF_BOUNDS]
    if d < shelf.last:
        return [TOO_EARLY]
    slip = shelf.out(d).get(f)
    if slip is None:
        return [NOT_SO]
    if shelf.full():
        return [NO_ROOM]
    slip.returned[f] = d
    return [shelf.enter(d)]


def drop(shelf, d, q):
    """Withdraw slip q; answer how many slips are served by it."""
    if d > LAST_DAY:
        return [OUT_OF_BOUNDS]
    if d < shelf.last:
        return [TOO_EARLY]
    if q >= len(shelf.slips):
        return [NO_SLIP]
    slip = shelf.slips[q]
    if not slip.waits(d):
        return [NOT_SO]
    if shelf.full():
        return [NO_ROOM]
    slip.withdrawn = d
    return [shelf.enter(d)]


def count(shelf, k):
    """Answer how many slips are known by day k, and how many of them wait."""
    if k > LAST_DAY:
        return [OUT_OF_BOUNDS]
    known = [slip for slip in shelf.slips if slip.asked <= k]
    waiting = [slip for slip in shelf.slips if slip.waits(k)]
    return [len(known), len(waiting)]


def who(shelf, k, f):
    """Answer who has file f, known by day k: 1, slip, reader, since, due; or 0: it is in."""
    if k > LAST_DAY or f > LAST_FILE:
        return [OUT_OF_BOUNDS]
    slip = shelf.out(k).get(f)
    if slip is None:
        return [0]
    return [1, slip.number, slip.reader, slip.served, slip.due()]


def call_length(calls, at):
    """How many numbers the call has that begins at this place of the list."""
    length = CALL_LENGTHS[calls[at]]
    if calls[at] == ASK:
        # The last number before the files says how many they are.
        length += calls[at + length - 1]
    return length


def answer_of(shelf, call):
    """What one call answers, as a list of numbers."""
    if call[0] == BEGIN:
        shelf.begin()
        return [0]
    if call[0] == ASK:
        return ask(shelf, call[1], call[2], call[3], call[5:])
    if call[0] == BACK:
        return back(shelf, call[1], call[2])
    if call[0] == DROP:
        return drop(shelf, call[1], call[2])
    if call[0] == COUNT:
        return count(shelf, call[1])
    return who(shelf, call[1], call[2])


def answers(calls):
    """Answer a list of calls on one new object: for each, how many numbers are answered, and these."""
    shelf = Shelf()
    told = []
    at = 0
    while at < len(calls):
        length = call_length(calls, at)
        answer = answer_of(shelf, calls[at:at + length])
        told.append(len(answer))
        told.extend(answer)
        at += length
    return told
