"""Many made-up rows of calls against the document's words taken one by one, and its promises D1 to D6."""

import random
import unittest

from tests.helper import (
    ask, asked, back, begin, count, drop, files_of, late, run, slip, waits, when, who, whole_view,
)

ROWS = 400
FILES = 6
QUESTIONS = 150


class Model:
    """The entries alone are kept; whatever is asked, they are gone through anew."""

    def __init__(self):
        self.entries = []

    def state(self, k):
        """The slips by day k: a dict for each; and which files are out with which slip."""
        slips, out = [], {}
        for entry in self.entries:
            if entry[1] > k:
                break
            self.apply(entry, slips, out)
        return slips, out

    def apply(self, entry, slips, out):
        if entry[0] == "ask":
            slips.append({"asked": entry[1], "reader": entry[2], "days": entry[3], "files": entry[4], "waits": True,
                          "gone": False, "since": -1, "back": []})
        elif entry[0] == "back":
            slips[out.pop(entry[2])]["back"].append(entry[2])
        else:
            slips[entry[2]].update(waits=False, gone=True)
        return self.serve(entry[1], slips, out)

    def serve(self, day, slips, out):
        served = 0
        for number, one in enumerate(slips):
            earlier = [f for other in slips[:number] if other["waits"] for f in other["files"]]
            if one["waits"] and not set(one["files"]) & (set(out) | set(earlier)):
                one.update(waits=False, since=day)
                out.update({f: number for f in one["files"]})
                served += 1
        return served

    def due(self, one):
        return one["since"] + one["days"]

    def enter(self, entry):
        slips, out = self.state(292193)
        self.entries.append(entry)
        return self.apply(entry, slips, out)

    def answer(self, call):
        names = ("begin", "ask", "back", "drop", "count", "who", "slip", "files", "waits", "late", "when")
        return getattr(self, names[call[0] - 1])(*call[1:])

    def begin(self):
        self.entries = []
        return [0]

    def ask(self, d, reader, days, many, *files):
        if d > 292193 or not 1 <= reader <= 65535 or not 1 <= days <= 1000 or not 1 <= many <= 8:
            return [-1]
        if max(files) > 16383 or sorted(set(files)) != list(files):
            return [-1]
        if self.entries and d < self.entries[-1][1]:
            return [-3]
        number = len(self.state(292193)[0])
        if number == 64 or len(self.entries) == 512:
            return [-6]
        self.enter(("ask", d, reader, days, files))
        return [number]

    def back(self, d, f):
        if d > 292193 or f > 16383:
            return [-1]
        if self.entries and d < self.entries[-1][1]:
            return [-3]
        if f not in self.state(292193)[1]:
            return [-5]
        if len(self.entries) == 512:
            return [-6]
        return [self.enter(("back", d, f))]

    def drop(self, d, q):
        if d > 292193:
            return [-1]
        if self.entries and d < self.entries[-1][1]:
            return [-3]
        slips = self.state(292193)[0]
        if q >= len(slips):
            return [-4]
        if not slips[q]["waits"]:
            return [-5]
        if len(self.entries) == 512:
            return [-6]
        return [self.enter(("drop", d, q))]

    def count(self, k):
        if k > 292193:
            return [-1]
        slips = self.state(k)[0]
        return [len(slips), len([one for one in slips if one["waits"]])]

    def who(self, k, f):
        if k > 292193 or f > 16383:
            return [-1]
        slips, out = self.state(k)
        if f not in out:
            return [0]
        one = slips[out[f]]
        return [1, out[f], one["reader"], one["since"], self.due(one)]

    def slip(self, k, q):
        if k > 292193:
            return [-1]
        slips, out = self.state(k)
        if q >= len(slips):
            return [-4]
        one = slips[q]
        state = 0 if one["waits"] else 3 if one["gone"] else 1 if q in out.values() else 2
        return [0, one["asked"], one["since"], one["days"], one["reader"], state] + sorted(one["back"])

    def files(self, k, q):
        if k > 292193:
            return [-1]
        slips = self.state(k)[0]
        if q >= len(slips):
            return [-4]
        return [len(slips[q]["files"]), *slips[q]["files"]]

    def waits(self, k, q):
        if k > 292193:
            return [-1]
        slips, out = self.state(k)
        if q >= len(slips):
            return [-4]
        if not slips[q]["waits"]:
            return [-5]
        keep = {out[f] for f in slips[q]["files"] if f in out}
        keep.update(number for number in range(q) if slips[number]["waits"]
                    and set(slips[number]["files"]) & set(slips[q]["files"]))
        return [len(keep), *sorted(keep)]

    def late(self, k, x):
        if k > 292193 or x > 292193:
            return [-1]
        slips, out = self.state(k)
        found = [f for f in sorted(out) if self.due(slips[out[f]]) < x]
        found.sort(key=lambda f: self.due(slips[out[f]]))
        return [len(found), *found]

    def when(self, k, q, x):
        if k > 292193 or x > 292193:
            return [-1]
        if x < k:
            return [-3]
        slips, out = self.state(k)
        if q >= len(slips):
            return [-4]
        if not slips[q]["waits"]:
            return [-5]
        day = x
        while True:
            for f in [f for f in out if max(self.due(slips[out[f]]), x) == day]:
                out.pop(f)
            self.serve(day, slips, out)
            if not slips[q]["waits"]:
                return [0, day]
            day += 1


def made_up_question(chance, day):
    k = chance.randint(0, day + 2)
    q = chance.randrange(12)
    return chance.choice((
        count(k), who(k, chance.randrange(FILES)), slip(k, q), files_of(k, q), waits(k, q),
        late(k, chance.randint(0, day + 12)), when(k, q, max(0, k + chance.randint(-1, 12))),
    ))


def made_up_call(chance, day):
    kind = chance.choice(("ask", "ask", "ask", "back", "back", "back", "back", "drop", "question", "question", "odd"))
    d = day if chance.random() < 0.9 else max(0, day - 1)
    if kind == "ask":
        files = sorted(chance.sample(range(FILES), chance.randint(1, 3)))
        return ask(d, chance.randint(1, 9), chance.randint(1, 9), files)
    if kind == "back":
        return back(d, chance.randrange(FILES))
    if kind == "drop":
        return drop(d, chance.randrange(12))
    if kind == "question":
        return made_up_question(chance, day)
    return chance.choice((
        ask(d, 0, 1, [1]), ask(d, 1, 1, [2, 1]), ask(d, 1, 1, []), back(292194, 1), drop(292194, 0), count(292194),
        who(d, 16384), back(d, 16384), ask(d, 1, 1001, [3]), ask(d, 1, 1, range(20)), slip(292194, 0), slip(d, 64),
        files_of(292194, 0), waits(292194, 1), late(292194, d), late(d, 292194), when(d, 1, 292194),
        when(292194, 1, d),
    ))


def made_up_row(seed):
    chance = random.Random(seed)
    day = chance.randint(0, 3)
    row = []
    for number in range(chance.randint(1, 70)):
        day += chance.choice((0, 0, 1, 3))
        row.append(made_up_call(chance, day))
    if chance.random() < 0.1:
        row.insert(chance.randrange(len(row)), begin())
    return row


def questions_behind(row, seed):
    """Some of all that may be asked behind a row."""
    many = len([call for call in row if call[0] == 2])
    view = whole_view(range(last_day(row) + 3), range(FILES), range(many))
    return random.Random(seed).sample(view, min(QUESTIONS, len(view)))


def last_day(row):
    return max([call[1] for call in row if call[0] in (2, 3, 4) and call[1] <= 292193], default=0)


def modelled(row):
    model = Model()
    return [model.answer(call) for call in row]


class AgainstTheWords(unittest.TestCase):
    def test_answers(self):
        for seed in range(ROWS):
            row = made_up_row(seed)
            row.extend(questions_behind(row, seed))
            with self.subTest(seed=seed):
                self.assertEqual(run(row), modelled(row))


class Promises(unittest.TestCase):
    def rows(self):
        for seed in range(1000, 1000 + ROWS // 4):
            yield seed, [call for call in made_up_row(seed) if call != begin()]

    def test_refused_calls_change_nothing(self):
        for seed, row in self.rows():
            told = run(row)
            taken = [at for at in range(len(row)) if told[at][0] >= 0]
            with self.subTest(seed=seed):
                self.assertEqual(run([row[at] for at in taken]), [told[at] for at in taken])

    def test_questions_change_nothing(self):
        for seed, row in self.rows():
            entries = [call for call in row if call[0] in (2, 3, 4)]
            told = run(row)
            with self.subTest(seed=seed):
                self.assertEqual(run(entries), [told[at] for at, call in enumerate(row) if call[0] in (2, 3, 4)])

    def test_what_an_earlier_day_knows_stays(self):
        for seed, row in self.rows():
            told = run(row)
            for at in range(len(row) // 3, len(row), 5):
                day = row[at][1]
                if row[at][0] in (2, 3, 4) and told[at][0] >= 0 and day > 0:
                    view = whole_view((day // 2, day - 1), range(FILES), range(8))
                    with self.subTest(seed=seed, at=at):
                        self.assertEqual(asked(row, view), asked(row[:at], view))

    def test_who_waits_is_kept_by_somebody_and_nobody_else_is(self):
        for seed, row in self.rows():
            day = last_day(row)
            for q in range(run(row + [count(day)])[-1][0]):
                state, keep, latest = run(row + [slip(day, q), waits(day, q), when(day, q, day)])[-3:]
                with self.subTest(seed=seed, q=q):
                    if state[5] == 0:
                        self.assertGreater(keep[0], 0)
                        self.assertEqual(keep[0], len(keep) - 1)
                        self.assertLess(max(keep[1:]), q)
                        self.assertGreaterEqual(latest[1], day)
                    else:
                        self.assertEqual((keep, latest), ([-5], [-5]))

    def test_at_the_latest_is_so_if_it_goes_so(self):
        for seed, row in self.rows():
            chance = random.Random(seed)
            day = last_day(row)
            x = day + chance.choice((0, 0, 1, 4, 20))
            many = run(row + [count(day)])[-1][0]
            foretold = run(row + [when(day, q, x) for q in range(many)])[len(row):]
            played = self.played(row, day, x, chance)
            served = run(played + [slip(292193, q) for q in range(many)])[len(played):]
            with self.subTest(seed=seed):
                for q in range(many):
                    if foretold[q][0] == 0:
                        self.assertEqual(served[q][2], foretold[q][1])
                self.assertEqual(run(played + [count(292193)])[-1], [many, 0])

    def played(self, row, day, x, chance):
        """The row, and each file that is out, or comes to be, back on the day when it is due, but not before x."""
        while True:
            told = run(row + [who(day, f) for f in range(FILES)])[len(row):]
            due = {f: max(x, told[f][4]) for f in range(FILES) if told[f][0] == 1}
            if not due:
                return row
            day = min(due.values())
            back_now = [f for f in due if due[f] == day]
            chance.shuffle(back_now)
            row = row + [back(day, f) for f in back_now]

    def test_a_slip_has_all_its_files_when_it_is_served(self):
        for seed, row in self.rows():
            told = run(row)
            for at, call in enumerate(row):
                if call[0] == 2 and told[at][0] >= 0:
                    now = run(row[:at + 1] + [who(call[1], f) for f in call[5:]])[at + 1:]
                    with self.subTest(seed=seed, at=at):
                        has = [answer[:2] == [1, told[at][0]] for answer in now]
                        self.assertIn(has, ([True] * len(has), [False] * len(has)))

    def test_if_all_files_come_back_all_slips_come_to_be_served(self):
        for seed, row in self.rows():
            chance = random.Random(seed)
            day = last_day(row)
            with self.subTest(seed=seed):
                self.assertEqual(self.left_waiting(row, day, chance), 0)

    def left_waiting(self, row, day, chance):
        """How many slips wait when files have been brought back, one after another, until none is out."""
        while True:
            told = run(row + [count(day)] + [who(day, f) for f in range(FILES)])[len(row):]
            out = [f for f in range(FILES) if told[1 + f][0] == 1]
            if not out:
                return told[0][1]
            row = row + [back(day, chance.choice(out))]
