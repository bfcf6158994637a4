"""Many made-up rows of calls against the document's words taken one by one, and its promises D1 to D6."""

import random
import unittest

from tests.helper import ask, back, begin, count, drop, run, whole_view, who

ROWS = 400
FILES = 6


class Model:
    """The entries alone are kept; whatever is asked, they are gone through anew."""

    def __init__(self):
        self.entries = []

    def state(self, k):
        """The slips by day k: a dict for each; and which files are out with which slip."""
        slips, out = [], {}
        for entry in self.entries:
            if entry[1] > k:
                break
            self.apply(entry, slips, out)
        return slips, out

    def apply(self, entry, slips, out):
        if entry[0] == "ask":
            slips.append({"reader": entry[2], "days": entry[3], "files": entry[4], "waits": True, "since": None})
        elif entry[0] == "back":
            out.pop(entry[2])
        else:
            slips[entry[2]]["waits"] = False
        served = 0
        for number, slip in enumerate(slips):
            earlier = [f for other in slips[:number] if other["waits"] for f in other["files"]]
            if slip["waits"] and not set(slip["files"]) & (set(out) | set(earlier)):
                slip.update(waits=False, since=entry[1])
                out.update({f: number for f in slip["files"]})
                served += 1
        return served

    def enter(self, entry):
        slips, out = self.state(292193)
        self.entries.append(entry)
        return self.apply(entry, slips, out)

    def answer(self, call):
        return getattr(self, ("begin", "ask", "back", "drop", "count", "who")[call[0] - 1])(*call[1:])

    def begin(self):
        self.entries = []
        return [0]

    def ask(self, d, reader, days, many, *files):
        if d > 292193 or not 1 <= reader <= 65535 or not 1 <= days <= 1000 or not 1 <= many <= 8:
            return [-1]
        if max(files) > 16383 or sorted(set(files)) != list(files):
            return [-1]
        if self.entries and d < self.entries[-1][1]:
            return [-3]
        number = len(self.state(292193)[0])
        if number == 64 or len(self.entries) == 512:
            return [-6]
        self.enter(("ask", d, reader, days, files))
        return [number]

    def back(self, d, f):
        if d > 292193 or f > 16383:
            return [-1]
        if self.entries and d < self.entries[-1][1]:
            return [-3]
        if f not in self.state(292193)[1]:
            return [-5]
        if len(self.entries) == 512:
            return [-6]
        return [self.enter(("back", d, f))]

    def drop(self, d, q):
        if d > 292193:
            return [-1]
        if self.entries and d < self.entries[-1][1]:
            return [-3]
        slips = self.state(292193)[0]
        if q >= len(slips):
            return [-4]
        if not slips[q]["waits"]:
            return [-5]
        if len(self.entries) == 512:
            return [-6]
        return [self.enter(("drop", d, q))]

    def count(self, k):
        if k > 292193:
            return [-1]
        slips = self.state(k)[0]
        return [len(slips), len([slip for slip in slips if slip["waits"]])]

    def who(self, k, f):
        if k > 292193 or f > 16383:
            return [-1]
        slips, out = self.state(k)
        if f not in out:
            return [0]
        slip = slips[out[f]]
        return [1, out[f], slip["reader"], slip["since"], slip["since"] + slip["days"]]


def made_up_call(chance, day):
    kind = chance.choice(("ask", "ask", "ask", "back", "back", "back", "back", "drop", "count", "who", "who", "odd"))
    d = day if chance.random() < 0.9 else max(0, day - 1)
    if kind == "ask":
        files = sorted(chance.sample(range(FILES), chance.randint(1, 3)))
        return ask(d, chance.randint(1, 9), chance.randint(1, 9), files)
    if kind == "back":
        return back(d, chance.randrange(FILES))
    if kind == "drop":
        return drop(d, chance.randrange(12))
    if kind == "count":
        return count(chance.randint(0, day + 2))
    if kind == "who":
        return who(chance.randint(0, day + 2), chance.randrange(FILES))
    return chance.choice((
        ask(d, 0, 1, [1]), ask(d, 1, 1, [2, 1]), ask(d, 1, 1, []), back(292194, 1), drop(292194, 0), count(292194),
        who(d, 16384), back(d, 16384), ask(d, 1, 1001, [3]), ask(d, 1, 1, range(20)),
    ))


def made_up_row(seed):
    chance = random.Random(seed)
    day = chance.randint(0, 3)
    row = []
    for number in range(chance.randint(1, 70)):
        day += chance.choice((0, 0, 1, 3))
        row.append(made_up_call(chance, day))
    if chance.random() < 0.1:
        row.insert(chance.randrange(len(row)), begin())
    return row


def last_day(row):
    return max([call[1] for call in row if call[0] in (2, 3, 4) and call[1] <= 292193], default=0)


def modelled(row):
    model = Model()
    return [model.answer(call) for call in row]


class AgainstTheWords(unittest.TestCase):
    def test_answers(self):
        for seed in range(ROWS):
            row = made_up_row(seed)
            row.extend(whole_view(range(0, last_day(row) + 2, 2), range(FILES)))
            with self.subTest(seed=seed):
                self.assertEqual(run(row), modelled(row))


class Promises(unittest.TestCase):
    def rows(self):
        for seed in range(1000, 1000 + ROWS // 4):
            yield seed, [call for call in made_up_row(seed) if call != begin()]

    def test_refused_calls_change_nothing(self):
        for seed, row in self.rows():
            told = run(row)
            taken = [at for at in range(len(row)) if told[at][0] >= 0]
            with self.subTest(seed=seed):
                self.assertEqual(run([row[at] for at in taken]), [told[at] for at in taken])

    def test_a_slip_has_all_its_files_when_it_is_served(self):
        for seed, row in self.rows():
            told = run(row)
            for at, call in enumerate(row):
                if call[0] == 2 and told[at][0] >= 0:
                    now = run(row[:at + 1] + [who(call[1], f) for f in call[5:]])[at + 1:]
                    with self.subTest(seed=seed, at=at):
                        has = [answer[:2] == [1, told[at][0]] for answer in now]
                        self.assertIn(has, ([True] * len(has), [False] * len(has)))

    def test_if_all_files_come_back_all_slips_come_to_be_served(self):
        for seed, row in self.rows():
            chance = random.Random(seed)
            day = last_day(row)
            with self.subTest(seed=seed):
                self.assertEqual(self.left_waiting(row, day, chance), 0)

    def left_waiting(self, row, day, chance):
        """How many slips wait when files have been brought back, one after another, until none is out."""
        while True:
            told = run(row + [count(day)] + [who(day, f) for f in range(FILES)])[len(row):]
            out = [f for f in range(FILES) if told[1 + f][0] == 1]
            if not out:
                return told[0][1]
            row = row + [back(day, chance.choice(out))]
