"""The program against a second, differently built account of the document, over many made-up texts.

The model works with patterns, recursion and trees where the program works with loops; the texts are small enough.
The source of the made-up texts is seeded, so that each run of the tests asks the same.
"""

import itertools
import random
import re
import unittest

from tests.helper import ask, begin, ends, ever, forecast, label, needs, read, STAND, WRITTEN

NAME = r"[a-z][a-z0-9-]{0,11}"
VALUE = r"[a-z0-9.-]{1,12}"
PAIR = NAME + "=" + VALUE
LINE_FORMS = {
    "job": f" {NAME}",
    "axis": f" {NAME}( {VALUE})+",
    "less": f"( {PAIR})+",
    "more": f"( {PAIR})+",
    "needs": f"( {NAME})+",
    "beside": f"( {NAME})+",
    "soft": "",
}


class Unformed(Exception):
    pass


def tree_of(words):
    """The condition as a tree, by descent: or of ands of nots."""
    rest = list(words)

    def taken(*allowed):
        return rest.pop(0) if rest and rest[0] in allowed else None

    def chain(operator, inner):
        left = inner()
        while taken(operator):
            left = (operator, left, inner())
        return left

    def either():
        return chain("or", both)

    def both():
        return chain("and", closest)

    def closest():
        if taken("not"):
            return ("not", closest())
        if taken("("):
            inner = either()
            if not taken(")"):
                raise Unformed
            return inner
        if not rest:
            raise Unformed
        word = rest.pop(0)
        if word == "flag":
            if not rest or not re.fullmatch(NAME, rest[0]):
                raise Unformed
            return ("flag", rest.pop(0))
        if word in ("ok", "bad", "always") or re.fullmatch(PAIR, word):
            return (word,)
        raise Unformed

    tree = either()
    if rest:
        raise Unformed
    return tree


def flags_in(tree):
    if tree[0] == "flag":
        return [tree[1]]
    return [name for part in tree[1:] for name in flags_in(part)]


def shown(tree):
    if tree[0] == "flag":
        return "flag " + tree[1]
    if len(tree) == 1:
        return tree[0]

    def inside(part, *loose):
        return f"({shown(part)})" if part[0] in loose else shown(part)

    if tree[0] == "not":
        return "not " + inside(tree[1], "and", "or")
    if tree[0] == "and":
        return inside(tree[1], "or") + " and " + inside(tree[2], "and", "or")
    return inside(tree[1]) + " or " + inside(tree[2], "or")


class ModelJob:
    def __init__(self, name, line):
        self.name, self.line = name, line
        self.told = {word: [] for word in ("axis", "less", "more", "needs", "beside", "when", "soft")}

    def combinations(self):
        axes = {row[0]: row[1:] for row in self.told["axis"]}
        pairs = {word: [dict(pair.split("=") for pair in row) for row in self.told[word]] for word in ("less", "more")}
        firsts = [dict(zip(axes, row)) for row in itertools.product(*axes.values())]
        if not axes and pairs["more"]:
            firsts = []
        firsts = [first for first in firsts if not any(less.items() <= first.items() for less in pairs["less"])]
        grown, new = [dict(first) for first in firsts], []
        for more in pairs["more"]:
            asked = {name: value for name, value in more.items() if name in axes}
            fitting = [number for number, first in enumerate(firsts) if asked.items() <= first.items()]
            for number in fitting:
                grown[number].update((name, value) for name, value in more.items() if name not in axes)
            if not fitting:
                new.append(more)
        return grown + new


class Model:
    """A text's answers: its faults, or its pipeline."""

    def __init__(self, text):
        self.jobs, self.flags, self.fault = [], [], None
        lines = text.split("\n")
        if lines[-1] == "":
            lines.pop()
        for number, line in enumerate(lines, 1):
            fault = self.line_fault(line, number)
            if fault:
                self.fault = [-1, number, fault]
                return
        self.fault = self.whole_fault()

    def line_fault(self, line, number):
        if re.search(r"[^ -~]", line):
            return 1
        words = re.findall(r"[()]|[^ ()]+", line)
        if not words or words[0][0] == "#":
            return 0
        word, rest = words[0], words[1:]
        if word not in LINE_FORMS and word != "when" or word != "job" and not self.jobs:
            return 2
        job = self.jobs[-1] if self.jobs else None
        if word == "when":
            try:
                tree = tree_of(rest)
            except Unformed:
                return 3
            return self.when_fault(job, rest, tree)
        if not re.fullmatch(LINE_FORMS[word], "".join(" " + part for part in rest)):
            return 3
        if word == "job":
            if rest[0] in [other.name for other in self.jobs]:
                return 4
            if len(self.jobs) == 8:
                return 5
            self.jobs.append(ModelJob(rest[0], number))
            return 0
        faults = list(self.other_faults(job, word, rest))
        job.told[word].append(rest)
        if word in ("needs", "beside"):
            job.told[word + " line"] = number
        return min(faults, default=0)

    def when_fault(self, job, words, tree):
        if job.told["when"]:
            return 4
        flags = list(dict.fromkeys(self.flags + flags_in(tree)))
        if sum(word in ("not", "(") for word in words) > 20 or len(flags) > 3:
            return 5
        self.flags = flags
        job.told["when"].append(tree)
        return 0

    def other_faults(self, job, word, rest):
        told = job.told
        names = [part.split("=")[0] for part in rest]
        axes = [row[0] for row in told["axis"]]
        if word == "axis" and (rest[0] in axes or len(set(rest[1:])) < len(rest) - 1):
            yield 4
        if word != "axis" and len(set(names)) < len(names):
            yield 4
        if word in ("needs", "beside", "soft") and told[word]:
            yield 4
        if len(told[word]) == {"axis": 3, "less": 4, "more": 4}.get(word):
            yield 5
        if len(rest) > {"axis": 5, "less": 4, "more": 4}.get(word, 9999):
            yield 5
        if word == "less" and not set(names) <= set(axes):
            yield 6
        if word == "axis" and (told["less"] or told["more"]) or word == "less" and told["more"]:
            yield 7

    def whole_fault(self):
        by_name = {job.name: job for job in self.jobs}
        links = {job.name: [name for row in job.told["needs"] + job.told["beside"] for name in row] for job in self.jobs}
        missing = [job.told[word + " line"] for job in self.jobs for word in ("needs", "beside")
                   if any(name not in by_name for row in job.told[word] for name in row)]
        if missing:
            return [-1, min(missing), 8]

        def reaches(start, goal, steps):
            return steps > 0 and any(name == goal or reaches(name, goal, steps - 1) for name in links[start])

        for job in self.jobs:
            if reaches(job.name, job.name, len(self.jobs)):
                return [-1, job.line, 9]
        self.instances = []
        for job in self.jobs:
            self.instances += [(job, row) for row in job.combinations()]
            if len(self.instances) > 24:
                return [-1, job.line, 10]
        return None

    def read(self):
        return self.fault or [0, len(self.jobs), len(self.instances), len(self.flags)]

    def written(self):
        text = ""
        for job in self.jobs:
            text += f"job {job.name}\n"
            for word in ("axis", "less", "more", "needs", "beside"):
                text += "".join(f"  {word} {' '.join(row)}\n" for row in job.told[word])
            text += "".join(f"  when {shown(tree)}\n" for tree in job.told["when"] if tree != ("ok",))
            text += "  soft\n" * len(job.told["soft"])
        return [0] + list(text.encode())

    def label(self, number):
        job, row = self.instances[number]
        return [0] + list((job.name + (f" ({', '.join(row.values())})" if row else "")).encode())

    def needed(self, number):
        job, row = self.instances[number]
        found = []
        for place, (other, other_row) in enumerate(self.instances):
            agreeing = all(row[name] == other_row[name] for name in row.keys() & other_row.keys())
            if other.name in sum(job.told["needs"], []) or agreeing and other.name in sum(job.told["beside"], []):
                found.append(place)
        return found

    def above(self, number):
        needed = self.needed(number)
        return set(needed).union(*[self.above(other) for other in needed])

    def stands(self, flags, fate):
        """How all stand when those that run stand at fate(number): 1 if they still run, else as they ended."""
        states = {}

        def value(number, tree):
            word = tree[0]
            if word == "not":
                return not value(number, tree[1])
            if word == "and":
                return value(number, tree[1]) and value(number, tree[2])
            if word == "or":
                return value(number, tree[1]) or value(number, tree[2])
            if word == "flag":
                return flags // 2 ** self.flags.index(tree[1]) % 2 == 1
            if "=" in word:
                return tuple(word.split("=")) in self.instances[number][1].items()
            if word == "ok":
                return {state(other) for other in self.needed(number)} <= {2, 5}
            if word == "bad":
                return 3 in {state(other) for other in self.above(number)}
            return True

        def state(number):
            if number not in states:
                trees = self.instances[number][0].told["when"] or [("ok",)]
                if {state(other) for other in self.needed(number)} & {0, 1}:
                    states[number] = 0
                else:
                    states[number] = fate(number) if value(number, trees[0]) else 4
            return states[number]

        return [state(number) for number in range(len(self.instances))]

    def failed(self, number):
        return 5 if self.instances[number][0].told["soft"] else 3

    def is_too_high(self, flags, failures=0):
        return flags >= 2 ** len(self.flags) or failures >= 2 ** len(self.instances)

    def begin(self, flags):
        if self.is_too_high(flags):
            return [-3]
        return news([0] * len(self.instances), self.stands(flags, lambda number: 1))

    def forecast(self, flags, failures):
        if self.is_too_high(flags, failures):
            return [-3]
        stands = self.stands(flags, lambda number: self.failed(number) if failures // 2 ** number % 2 else 2)
        return [conclusion(stands)] + stands

    def ever(self, number):
        if number >= len(self.instances):
            return [-2]
        above = sorted(self.above(number))
        if len(above) > 5:
            return [-6]
        failures = [sum(2 ** place for place in some) for count in range(6) for some in itertools.combinations(above, count)]
        found = [[1, some, up] for some in failures for up in range(2 ** len(self.flags))
                 if self.forecast(up, some)[1 + number] != 4]
        return min(found, default=[0])


class ModelRun:
    """A run that is reckoned anew from all that has ended so far, at each call."""

    def __init__(self, model, flags):
        self.model, self.flags, self.ended = model, flags, {}

    def stands(self):
        return self.model.stands(self.flags, lambda number: self.ended.get(number, 1))

    def ends(self, number, passed):
        before = self.stands()
        if number >= len(before):
            return [-2]
        if before[number] != 1:
            return [-5]
        self.ended[number] = 2 if passed else self.model.failed(number)
        return news(before, self.stands())

    def stand(self):
        return [conclusion(self.stands())] + self.stands()


def conclusion(stands):
    return 0 if {0, 1} & set(stands) else 2 if 3 in stands else 1


def news(before, stands):
    moved = [number for number, stand in enumerate(stands) if before[number] == 0 != stand]
    begun = [number for number in moved if stands[number] == 1]
    return [conclusion(stands), len(begun)] + begun + [number for number in moved if stands[number] == 4]


class Maker:
    """Makes texts, most of them without a fault."""

    def __init__(self, seed, most=2):
        self.random = random.Random(seed)
        self.most = most

    def pick(self, *choices):
        return self.random.choice(choices)

    def some(self, choices, least=1, most=3):
        count = min(len(choices), self.random.randint(least, most))
        return self.random.sample(choices, count)

    def condition(self, depth):
        if depth == 0 or self.random.random() < 0.3:
            return self.pick("ok", "bad", "always", "x=1", "y=2", "e=1", "flag p", "flag q", "flag not",
                             self.pick("ok", "bad", "flag r"))
        form = self.pick("not {}", "({})", "{} and {}", "{} or {}", "( {} and {})", "({} or {})", "not({} or {} )")
        return form.format(self.condition(depth - 1), self.condition(depth - 1))

    def pairs(self, names):
        return " ".join(f"{name}={self.pick('1', '2', '3')}" for name in self.some(names))

    def job(self, name, others):
        axes = self.some(["x", "y", "z"], 0, self.most)
        lines = [f"axis {axis} {' '.join(self.some(['1', '2', '3'], 1, self.most))}" for axis in axes]
        if axes:
            lines += [f"less {self.pairs(axes)}" for number in range(self.pick(0, 0, 1, 2))]
        lines += [f"more {self.pairs(axes + ['e', 'f'])}" for number in range(self.pick(0, 0, 1, 2))]
        for word in ("needs", "beside"):
            if others and self.random.random() < 0.5:
                lines.append(f"{word} {' '.join(self.some(others))}")
        if self.random.random() < 0.7:
            lines.append("when " + self.condition(self.random.randint(0, 4)))
        if self.random.random() < 0.2:
            lines.append("soft")
        return [f"job {name}"] + lines

    def text(self):
        names = ["a", "b", "c", "d"][:self.random.randint(1, 4)]
        self.random.shuffle(names)
        jobs = [self.job(name, names[:place]) for place, name in enumerate(names)]
        self.random.shuffle(jobs)
        return "\n".join(self.pick("", " ", "  ") + line for job in jobs for line in job) + self.pick("", "\n")

    def deep_text(self):
        """Many jobs with few instances and short conditions, so that failures bring others on."""
        names = list("abcdefg")[:self.random.randint(3, 7)]
        self.random.shuffle(names)
        jobs = []
        for place, name in enumerate(names):
            lines = [f"job {name}"]
            if self.random.random() < 0.15:
                lines.append("axis x 1 2")
            if place > 0:
                lines.append(f"{self.pick('needs', 'beside')} {' '.join(self.some(names[:place], 1, 2))}")
            lines.append("when " + self.pick("ok", "always", "bad", "bad", "not ok", "bad and not ok", "not bad and not ok",
                                             "ok or bad and flag p", "bad and flag q", "not flag p and ok", "x=1 or not ok"))
            if self.random.random() < 0.2:
                lines.append("soft")
            jobs.append(lines)
        self.random.shuffle(jobs)
        return "\n".join(line for job in jobs for line in job)

    def spoiled(self, text):
        """The text with a few small changes, by which it has a fault more often than not."""
        lines = text.split("\n")
        for number in range(self.random.randint(1, 3)):
            place = self.random.randrange(len(lines))
            form = self.pick("swap", "twice", "drop", "word", "sign")
            if form == "swap":
                other = self.random.randrange(len(lines))
                lines[place], lines[other] = lines[other], lines[place]
            elif form == "twice":
                lines.insert(self.random.randrange(len(lines) + 1), lines[place])
            elif form == "drop" and len(lines) > 1:
                lines.pop(place)
            elif form == "word":
                words = lines[place].split()
                word = self.pick("a", "b", "x=3", "y=1", "1", "(", ")", "not", "and", "flag", "ok", "soft", "when", "less")
                words.insert(self.random.randint(0, len(words)), word)
                lines[place] = " ".join(words)
            else:
                cut = self.random.randint(0, len(lines[place]))
                sign = self.pick("#", "(", ")", "=", "-", ".", "A", "\t", "~", "\x7f", "9", " ", "%", "_")
                lines[place] = lines[place][:cut] + sign + lines[place][cut:]
        return "\n".join(lines)


class AgainstModel(unittest.TestCase):
    def compare(self, text):
        model = Model(text)
        answered = ask(read(text))[0]
        self.assertEqual(answered, model.read(), text)
        if model.fault:
            return model.fault[2]
        every = range(len(model.instances))
        flags = range(2 ** len(model.flags) + 1)
        rows = ask(read(text), WRITTEN, *[label(number) for number in every], *[needs(number) for number in every],
                   *[begin(number) for number in flags])[1:]
        expected = [model.written()] + [model.label(number) for number in every]
        expected += [[0] + model.needed(number) for number in every] + [model.begin(number) for number in flags]
        self.assertEqual(rows, expected, text)
        self.assertEqual(ask(read(bytes(rows[0][1:])), WRITTEN)[1], rows[0], text)
        return 0

    def test_made_up_texts(self):
        maker = Maker(1)
        found = [self.compare(maker.text()) for number in range(600)]
        self.assertGreater(found.count(0), 300)

    def test_spoiled_texts(self):
        maker = Maker(2)
        found = [self.compare(maker.spoiled(maker.text())) for number in range(1500)]
        self.assertEqual(set(range(10)) - set(found), set())

    def test_large_texts(self):
        maker = Maker(3, most=3)
        found = []
        for number in range(300):
            jobs = [maker.job(f"j{place}", []) for place in range(maker.pick(3, 4, 9))]
            lines = [line for job in jobs for line in job if not line.startswith("when") or maker.pick(True, False)]
            found.append(self.compare("\n".join(lines[:maker.pick(10, 20, 99)])))
        self.assertEqual({0, 5, 10} - set(found), set())


class RunsAgainstModel(unittest.TestCase):
    """Texts without a fault; whole runs in made-up orders, with calls between that are refused or change nothing."""

    def setUp(self):
        self.random = random.Random(4)
        self.maker = Maker(5)

    def texts(self, count):
        while count > 0:
            text = self.maker.text() if count % 2 else self.maker.deep_text()
            model = Model(text)
            if not model.fault:
                count -= 1
                yield text, model

    def flags(self, model):
        return self.random.randrange(2 ** len(model.flags))

    def high(self, count):
        return self.random.choice([2 ** count, 2 ** count + 1, 2 ** 32 - 1])

    def step(self, run):
        """A call on a run, and its answer; more often than not an instance that runs ends."""
        stands = run.stands()
        model = run.model
        running = [number for number, stand in enumerate(stands) if stand == 1]
        form = self.random.random()
        if form < 0.6 and running:
            number, passed = self.random.choice(running), self.random.choice([0, 0, 1, 1, 2, 2 ** 32 - 1])
            return ends(number, passed), run.ends(number, passed)
        if form < 0.7:
            number = self.random.choice([self.random.randrange(len(stands) + 1), 2 ** 32 - 1])
            return ends(number, 1), run.ends(number, 1)
        if form < 0.75:
            flags, failures = self.flags(model), self.random.randrange(2 ** len(stands))
            return forecast(flags, failures), model.forecast(flags, failures)
        if form < 0.8:
            return begin(self.high(len(model.flags))), [-3]
        if form < 0.85:
            return read("job"), [-1, 1, 3]
        return STAND, run.stand()

    def test_whole_runs(self):
        for text, model in self.texts(400):
            rows = [(read(text), model.read()), (STAND, [-4]), (ends(0, 1), [-4]), (ends(2 ** 32 - 1, 1), [-4])]
            for count in (1, 2):
                flags = self.flags(model)
                run = ModelRun(model, flags)
                rows += [(begin(flags), model.begin(flags))] + [self.step(run) for number in range(26)]
            self.assertEqual(ask(*[call for call, answer in rows]), [answer for call, answer in rows], (text, rows))

    def test_forecasts(self):
        for text, model in self.texts(300):
            count = len(model.instances)
            asked = [(self.flags(model), self.random.randrange(2 ** count)) for number in range(12)]
            asked += [(0, 0), (0, 2 ** count - 1), (0, self.high(count)), (self.high(len(model.flags)), 0)]
            rows = ask(read(text), *[forecast(flags, failures) for flags, failures in asked])[1:]
            self.assertEqual(rows, [model.forecast(flags, failures) for flags, failures in asked], (text, asked))

    def test_ever(self):
        found = []
        for text, model in self.texts(400):
            numbers = [self.random.randrange(len(model.instances)) for number in range(2) if model.instances]
            numbers.append(self.random.choice([len(model.instances), 0, 2 ** 32 - 1]))
            rows = ask(read(text), *[ever(number) for number in numbers])[1:]
            self.assertEqual(rows, [model.ever(number) for number in numbers], (text, numbers))
            found += rows
        for form in ([0], [-2], [-6], [1, 0, 0]):
            self.assertIn(form, found)
        self.assertGreater(len([row for row in found if row[0] == 1 and row[1] > 0]), 40)
        self.assertGreater(len([row for row in found if row[0] == 1 and row[2] > 0]), 40)


if __name__ == "__main__":
    unittest.main()
