"""Cells by the words of part E, in two other ways: all answers from nothing, and with memos by nested calls."""


class Cyclic(Exception):
    """A cell that was asked by its name alone answered "cyclic"."""


class Ring(Exception):
    """A formula was asked for that is being answered already."""


def asking(formula):
    """A generator that yields the names that a formula asks, is sent their answers, and returns its value."""
    if formula is None or isinstance(formula, int):
        return formula
    if isinstance(formula, str):
        answer = yield formula
        if answer == "cyclic":
            raise Cyclic
        return answer
    word = formula[0]
    if word == "cyclic":
        answer = yield formula[1]
        return int(answer == "cyclic")
    first = yield from asking(formula[1])
    if word == "or":
        return first if first is not None else (yield from asking(formula[2]))
    if word == "if":
        chosen = 2 if first is not None and first != 0 else 3
        return (yield from asking(formula[chosen]))
    second = yield from asking(formula[2])
    there = [value for value in (first, second) if value is not None]
    if not there:
        return None
    if len(there) == 1:
        return there[0]
    if word == "least":
        return min(there)
    return sorted((-1000000, sum(there), 1000000))[1]


class Run:
    """A formula that is evaluated: what it asks now, or its answer."""

    def __init__(self, formula):
        self.reads, self.asks, self.answer = [], None, None
        self.steps = asking(formula)
        self.go_on(None)

    def go_on(self, answer):
        try:
            self.asks = self.steps.send(answer)
        except Cyclic:
            self.asks, self.answer = None, "cyclic"
        except StopIteration as ended:
            self.asks, self.answer = None, ended.value

    def hear(self, answer):
        self.reads.append((self.asks, answer))
        self.go_on(answer)


def from_nothing(rules):
    """The answers of all cells by their rules, and what `reads` tells of each formula."""
    answers = {name: rule for name, (sort, rule) in rules.items() if sort == "input"}
    runs = {name: Run(rule) for name, (sort, rule) in rules.items() if sort == "formula"}
    reads = {}
    while len(answers) < len(rules):
        moved = False
        for name, run in runs.items():
            if name in answers:
                continue
            if run.asks is None:
                answers[name], reads[name], moved = run.answer, run.reads, True
            elif run.asks not in rules or run.asks in answers:
                run.hear(answers.get(run.asks))
                moved = True
        if not moved:
            waiting = {name: run.asks for name, run in runs.items() if name not in answers}
            for name in waiting:
                at = waiting[name]
                for _ in waiting:
                    at = at if at == name else waiting[at]
                if at == name:
                    answers[name], reads[name] = "cyclic", runs[name].reads + [(waiting[name], "cyclic")]
    return answers, reads


class SlowCells:
    """Cells with memos, as [E7] says it, by calls that are nested as the formulas ask one another."""

    def __init__(self):
        self.rules, self.memos, self.answers, self.how = {}, {}, {}, {}
        self.stack = []

    def give(self, name, rule):
        if self.rules.get(name) != rule:
            self.rules[name] = rule
            self.begin(name)

    def remove(self, name):
        del self.rules[name]
        self.begin(name)

    def begin(self, name):
        self.memos.pop(name, None)
        self.answers, self.how = {}, {}

    def ask(self, name):
        if name not in self.rules:
            return None
        sort, rule = self.rules[name]
        if sort == "input":
            return rule
        if name in self.answers:
            return self.answers[name]
        if name in self.stack:
            raise Ring(name)
        self.stack.append(name)
        reads, asked, how = [], None, "kept"
        try:
            is_kept = name in self.memos
            if is_kept:
                old_reads, old_answer, old_last = self.memos[name]
                for asked, old in old_reads:
                    now = self.ask(asked)
                    if now != old:
                        is_kept = False
                        break
                    reads.append((asked, now))
                if is_kept and old_last is not None:
                    asked = old_last
                    self.ask(asked)
                    is_kept = False
            if is_kept:
                answer = old_answer
            else:
                reads, how = [], "run"
                run = Run(rule)
                while run.asks is not None:
                    asked, reads = run.asks, list(run.reads)
                    run.hear(self.ask(asked))
                answer, reads = run.answer, run.reads
            self.memos[name] = (reads, answer, None)
        except Ring as ring:
            answer = "cyclic"
            self.memos[name] = (reads, answer, asked)
            if ring.args[0] != name:
                self.answers[name], self.how[name] = answer, how
                raise
        finally:
            self.stack.pop()
        self.answers[name], self.how[name] = answer, how
        return answer

    def trim(self):
        dropped = [name for name in self.memos if name not in self.answers]
        for name in dropped:
            del self.memos[name]
        return len(dropped)

    def reads(self, name):
        if name not in self.memos:
            return None
        reads, _, last = self.memos[name]
        return reads + ([] if last is None else [(last, "cyclic")])

    def work(self):
        return (sorted(name for name in self.how if self.how[name] == "run"),
                sorted(name for name in self.how if self.how[name] == "kept"),
                sorted(name for name in self.how if self.memos[name][2] is not None))
