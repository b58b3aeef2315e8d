"""Moving, inlining and extracting by the words of part K, in another way.

Each file is a list of characters, each with where it comes from: ("kept", file, position) for one
that all steps keep, ("copied", file, position) for one that was copied, None for a new one.
"""

from tests.slownames import Slow
from tongues.errors import TongueError
from tongues.lookups import Names
from tongues.places import fits, place_of
from tongues.printing import insert_element, remove_element, replace_node
from tongues.tokens import tokens


class Stop(Exception):
    """A refactoring that is not carried out: what it is told with."""


def used(project, file):
    language = project.language(file)
    return [(token[1], token[2]) for token in tokens(language.lexer, project.text(file))
            if not language.lexer.is_skipped(token[0])]


def within(tree, row):
    found = [row]
    for number in range(row + 1, len(tree)):
        if tree[number][0] in found:
            found.append(number)
    return found


def lists_of(project, file, row):
    """The fields of the lists of the node in a row, each with the rows of its elements."""
    tree = project.tree(file)
    rule = project.language(file).rule(tree[row][3])
    if tree[row][2] != "node" or rule is None or rule[0] != "node":
        return {}
    return {part[2]: [number for number, one in enumerate(tree) if one[:3] == (row, part[2], "node")]
            for part in rule[2] if part[0] == "many"}


def outermost(project, file):
    rows = [row for row, one in enumerate(project.tree(file)) if one[0] is None and one[2] == "node"]
    return rows[0] if rows else None


class SlowSteps:
    def __init__(self, project):
        self.old = self.now = project
        self.old_leads = Names(project)
        self.chars = {file: [(one, ("kept", file, place)) for place, one in enumerate(project.text(file))]
                      for file in project.file_names()}

    def take(self, file, change, put_text=None, source=None, is_last=False):
        """Takes over a change, whose put has a text that is copied from (file, start) or None."""
        (start, stop, put), = change
        new = [(one, None) for one in put]
        if put_text is not None:
            at = put.rindex(put_text) if is_last else put.index(put_text)
            for offset, (origin, begin, length) in source:
                for number in range(length):
                    new[at + offset + number] = (put[at + offset + number], ("copied", origin, begin + number))
        self.chars[file][start:stop] = new
        self.now = self.now.with_texts({file: "".join(one for one, _ in self.chars[file])})

    def replace(self, file, row, text, source=()):
        try:
            change = replace_node(self.now.language(file), self.now.text(file), row, text)[0]
        except TongueError:
            return False
        self.take(file, change, text, source)
        return True

    def insert(self, file, row, field, index, text, source, blank):
        project = self.now
        try:
            change = insert_element(project.language(file), project.text(file), row, field, index, text, blank)[0]
        except TongueError:
            return False
        is_last = bool(lists_of(project, file, row)[field][:index]) and index == len(lists_of(project, file, row)[field])
        is_last = is_last or (not lists_of(project, file, row)[field] and change[0][0] > 0)
        self.take(file, change, text, source, is_last)
        return True

    def remove(self, file, row):
        try:
            change = remove_element(self.now.language(file), self.now.text(file), row)[0]
        except TongueError:
            return False
        self.take(file, change)
        return True

    def carried(self):
        """From each new token that comes from an old one to this one; tokens are (file, start, stop)."""
        old = {(file, start): (file, start, stop) for file in self.old.file_names() for start, stop in used(self.old, file)}
        found = {}
        for file in self.now.file_names():
            for start, stop in used(self.now, file):
                origin = self.chars[file][start][1]
                token = old.get(origin and origin[1:])
                if token and self.old.text(token[0])[token[1]:token[2]] == self.now.text(file)[start:stop]:
                    found[file, start, stop] = token
        return found

    def occurrences(self, project):
        """From each occurrence to its row, in order."""
        slow = Slow(project)
        return {(file, *project.tree(file)[row][4:]): row for file in project.file_names() for row in slow.occurrences(file)}

    def leads(self, project, names, token):
        row = self.occurrences(project).get(token)
        return None if row is None else tuple((file, *project.tree(file)[one][4:])
                                              for file, one in names.row_leads(token[0], row))

    def differing(self):
        """The list of (new, old, led, leads), in order."""
        carried, names, found = self.carried(), Names(self.now), []
        old, now = self.occurrences(self.old), self.occurrences(self.now)
        for new in sorted(carried):
            if new not in now:
                continue
            led = () if carried[new] not in old else self.leads(self.old, self.old_leads, carried[new])
            leads = self.leads(self.now, names, new)
            if any(carried.get(one) not in led for one in leads) or set(led) - {carried.get(one) for one in leads}:
                found.append((new, carried[new], led, leads))
        return found

    def finish(self):
        for new, _, led, leads in self.differing():
            raise Stop("Differs", new, led, leads)
        changes = {}
        for file in self.old.file_names():
            pieces, place, put = [], 0, ""
            for one, origin in self.chars[file] + [("", ("kept", file, len(self.old.text(file))))]:
                if origin and origin[0] == "kept":
                    if put or origin[2] > place:
                        pieces.append((place, origin[2], put))
                    place, put = origin[2] + 1, ""
                else:
                    put += one
            if pieces:
                changes[file] = tuple(pieces)
        return changes


def refuse(reason, file=None, position=None):
    raise Stop("Refused", reason, file, position)


class SlowRefactoring(SlowSteps):
    def fact(self, project, token):
        return Slow(project).fact(token[0], self.occurrences(project)[token])

    def new_places(self, token):
        return sorted(new for new, old in self.carried().items() if old == token)

    def write(self, language, rule, texts):
        parts, places = [], {}
        for part in language.rule(rule)[2]:
            text = part[1] if part[0] == "word" else texts.get(part[2])
            if text is None:
                if part[0] in ("token", "child"):
                    return None
                continue
            if part[0] != "word":
                places[part[2]] = len(" ".join(parts + [""]))
            parts.append(text)
        return " ".join(parts), places

    # Moving

    def move(self, file, place, target, index, blank=""):
        found = [(token, row) for token, row in self.occurrences(self.old).items()
                 if token[0] == file and token[1] <= place < token[2]]
        slow, tree = Slow(self.old), self.old.tree(file)
        if not found or slow.fact(file, found[0][1])[0] != "declares":
            refuse("declaration", file, place)
        declaration, row = found[0]
        if slow.scope_of(file, row) is not None:
            refuse("scope", file, place)
        if target not in self.old.file_names():
            raise Stop("NoFile", target)
        chosen = None
        for field, rows in (lists_of(self.old, file, outermost(self.old, file)) or {}).items():
            for element in rows:
                if row in within(tree, element):
                    chosen = (field, element)
        if chosen is None:
            refuse("list", file, place)
        if target == file:
            refuse("target")
        if self.old.files()[target][0] != self.old.files()[file][0]:
            refuse("language")
        outer = outermost(self.old, target)
        many = len(lists_of(self.old, target, outer).get(chosen[0], ())) if outer is not None else 0
        if not 0 <= index <= many:
            refuse("index")
        start, stop = tree[chosen[1]][4:]
        if not self.remove(file, chosen[1]):
            refuse("taken", file, start)
        source = [(0, (file, start, stop - start))]
        if outer is None or not self.insert(target, outer, chosen[0], index, self.old.text(file)[start:stop], source, blank):
            refuse("put")
        needs = []
        for new, old, led, _ in self.differing():
            if len(led) != 1 or "gives" not in self.fact(self.old, led[0])[4:] or not self.new_places(led[0]) \
                    or slow.scope_of(led[0][0], self.occurrences(self.old)[led[0]]) is not None:
                continue
            goal, fact = self.new_places(led[0])[0][0], self.fact(self.now, new)
            if fact[0] == "lists" or (fact[0] == "refers" and len(fact) == 4 and new[0] != goal):
                needs.append((fact[0] != "lists", new, old, goal))
        for is_reference, _, old, goal in sorted(needs):
            for new, other, _, _ in self.differing():
                if other == old:
                    is_done = self.bring(new, goal, blank) if is_reference else self.bring_again(new, old, goal, blank)
                    if not is_done:
                        refuse("import", *old[:2])
                    break
        if target not in [new[0] for new in self.new_places(declaration)]:
            refuse("put")
        return self.finish()

    def item(self, token):
        """The rows of the item and of the import of a listed name, None if it is in no item."""
        file, tree = token[0], self.now.tree(token[0])
        row = self.occurrences(self.now).get(token)
        if row is None or tree[tree[row][0]][0] is None:
            return None
        node = tree[row][0]
        around = tree[node][0]
        for one in self.now.language(file).imports:
            if len(one) == 7 and one[1] == tree[around][3] and one[4:] == (tree[node][1], tree[node][3], tree[row][1]):
                return node, around
        return None

    def take_out(self, token):
        found = self.item(token)
        if found is None:
            return False
        many = sum(len(rows) for rows in lists_of(self.now, token[0], found[1]).values())
        return self.remove(token[0], found[1] if many == 1 else found[0])

    def bring_again(self, new, old, goal, blank):
        found = self.item(new)
        name = found and self.now.tree(new[0])[found[0]][3]
        if not self.take_out(new):
            return False
        if new[0] == goal:
            return True
        tree = self.old.tree(old[0])
        start, stop = tree[tree[self.occurrences(self.old)[old]][0]][4:]
        text = self.old.text(old[0])[start:stop]
        rows = [one for one in self.now.language(new[0]).imports if len(one) == 7 and one[5] == name]
        return self.put_item(new[0], goal, [(one, text) for one in rows], [(0, (old[0], start, stop - start))], blank)

    def bring(self, new, goal, blank):
        language, fact = self.now.language(new[0]), self.fact(self.now, new)
        name = self.now.text(new[0])[new[1]:new[2]]
        rows = []
        for one in language.imports:
            if len(one) == 4:
                rows.append((one, None))
            elif [other[3] for other in language.names if other[:3] == ("lists", *one[5:])] == [fact[3]]:
                written = self.write(language, one[5], {one[6]: name})
                rows.append((one, written and written[0]))
        return self.put_item(new[0], goal, rows, [], blank)

    def put_item(self, file, goal, rows, source, blank):
        language, tree = self.now.language(file), self.now.tree(file)
        slow = Slow(self.now)
        for number, one in enumerate(tree):
            fitting = [row for row in rows if len(row[0]) == 7 and row[0][1] == one[3]]
            if one[2] == "node" and fitting and slow.brought(file, number) == goal:
                row, text = fitting[0]
                many = len(lists_of(self.now, file, number)[row[4]])
                if text is not None and self.insert(file, number, row[4], many, text, source, ""):
                    return True
                break
        outer = outermost(self.now, file)
        for row, text in rows if outer is not None else ():
            is_quoted = any(fact[:3] == ("brings", row[1], row[2]) and "quoted" in fact[3:] for fact in language.names)
            for quote in "\"'`" if is_quoted else ("",):
                texts = {row[2]: quote + goal + quote}
                if len(row) == 7:
                    if text is None:
                        continue
                    texts[row[4]] = text
                written = self.write(language, row[1], texts)
                if written is None:
                    continue
                shift = written[1][row[4]] if len(row) == 7 else 0
                moved = [(shift + offset, stretch) for offset, stretch in source]
                if self.insert(file, outer, row[3], 0, written[0], moved, blank):
                    return True
        return False

    # Inlining

    def inline(self, file, place):
        everything = self.occurrences(self.old)
        found = [token for token in everything if token[0] == file and token[1] <= place < token[2]]
        if not found:
            refuse("occurrence", file, place)
        led = self.leads(self.old, self.old_leads, found[0])
        if len(led) != 1:
            refuse("several" if led else "nothing", file, place)
        meant = led[0]
        home, tree = meant[0], self.old.tree(meant[0])
        node, field = tree[everything[meant]][0], tree[everything[meant]][1]
        body = None
        for _, name, own, inner in self.old.language(home).definitions:
            rows = [row for row, one in enumerate(tree) if one[:2] == (node, inner)]
            if body is None and (name, own) == (tree[node][3], field) and [tree[row][2] for row in rows] == ["node"]:
                body = rows[0]
        if body is None:
            refuse("definition", *meant[:2])
        if {tree[row][2] for row in within(tree, node)} & {"missing", "skipped"}:
            refuse("errors", *meant[:2])
        leads = {token: self.leads(self.old, self.old_leads, token) for token in everything}
        for token in leads:
            if meant in leads[token] and len(leads[token]) > 1:
                refuse("shared", *token[:2])
        uses = [token for token in leads if leads[token] == (meant,) and token != meant]
        start, stop = tree[body][4:]
        for token in uses:
            if token[0] == home and start <= token[1] < stop:
                refuse("itself", *token[:2])
        listed = [token for token in uses if self.fact(self.old, token)[0] == "lists"]
        for token in reversed([token for token in uses if token not in listed]):
            if self.old.files()[token[0]][0] != self.old.files()[home][0] or not self.replace_use(token, home, start, stop):
                refuse("replaced", *token[:2])
        for token in reversed(listed):
            if not any(self.take_out(new) for new in self.new_places(token)):
                refuse("taken", *token[:2])
        new = self.new_places(meant)[0]
        now = self.now.tree(home)
        stretch = now[now[self.occurrences(self.now)[new]][0]][4:]
        if not any(one[2] == "node" and one[4:] == stretch and self.remove(home, row) for row, one in enumerate(now)):
            refuse("taken", *meant[:2])
        return self.finish()

    def replace_use(self, token, home, start, stop):
        for file, begin, end in self.new_places(token):
            for row, one in enumerate(self.now.tree(file)):
                if one[2] == "node" and one[4:] == (begin, end):
                    if self.replace(file, row, self.old.text(home)[start:stop], [(0, (home, start, stop - start))]):
                        return True
        return False

    # Extracting

    def told(self, file, row):
        tree = self.old.tree(file)
        begin, end = tree[row][4:]
        return (tree[row][3], place_of(self.old.language(file), tree, row)[0],
                [(self.old.text(file)[start:stop], self.leads(self.old, self.old_leads, (file, start, stop)))
                 for start, stop in used(self.old, file) if begin <= start < end])

    def is_sound(self, file, row):
        return {self.old.tree(file)[one][2] for one in within(self.old.tree(file), row)} <= {"node", "token"}

    def extract(self, file, start, stop, name, every=False, blank=""):
        language, tree = self.old.language(file), self.old.tree(file)
        inner = [token for token in used(self.old, file) if start <= token[0] and token[1] <= stop]
        chosen = None
        for definition in language.definitions:
            parts = {part[2]: part[1] for part in language.rule(definition[1])[2] if part[0] != "word"}
            for row, one in enumerate(tree):
                if chosen is None and inner and one[2] == "node" and one[4:] == (inner[0][0], inner[-1][1]) \
                        and self.is_sound(file, row) and place_of(language, tree, row)[0] == parts[definition[3]]:
                    chosen = (definition, parts, row)
        if chosen is None:
            refuse("expression", file, start)
        (_, node, own, body), parts, expression = chosen
        begin, end = tree[expression][4:]
        kinds = [language.lexer.token(name, 0, mode)[0] for mode in language.modes]
        if not any(kind[0] == ("rule", parts[own]) and kind[2] == len(name) for kind in kinds) \
                or language.lexer.is_skipped(("rule", parts[own])):
            refuse("name", file, begin)
        row, place = expression, None
        while place is None and tree[row][0] is not None:
            around, field = tree[row][:2]
            if field in lists_of(self.old, file, around):
                rule = {part[2]: part[1] for part in language.rule(tree[around][3])[2] if part[0] == "many"}[field]
                if fits(language, (rule, 1), node):
                    place = (around, field)
            row = around
        if place is None:
            refuse("list", file, begin)
        rows = [expression]
        if every:
            alike = [row for row in within(tree, place[0]) if tree[row][2] == "node" and self.is_sound(file, row)
                     and self.told(file, row) == self.told(file, expression)]
            rows = [row for row in alike if not any(row in within(tree, other) for other in alike if other != row)]
        for row in sorted(rows, key=lambda row: -tree[row][4]):
            if not self.replace(file, row, name):
                refuse("put", file, tree[row][4])
        written = self.write(language, node, {own: name, body: self.old.text(file)[begin:end]})
        if written is None:
            refuse("parts")
        rows_of_list = lists_of(self.old, file, place[0])[place[1]]
        index = min(number for number, one in enumerate(rows_of_list) if set(rows) & set(within(tree, one)))
        if not self.insert(file, *place, index, written[0], [(written[1][body], (file, begin, end - begin))], blank):
            refuse("definition")
        changes = self.finish()
        self.check_new_names(name, len(rows) + 1)
        return changes

    def check_new_names(self, name, many):
        carried, now = self.carried(), self.occurrences(self.now)
        new = [token for token in now if token not in carried]
        declaring = [token for token in new if self.fact(self.now, token)[0] == "declares"]
        if len(new) != many or len(declaring) != 1 or {self.now.text(token[0])[token[1]:token[2]] for token in new} != {name}:
            refuse("put")
        names = Names(self.now)
        for token in new:
            if self.leads(self.now, names, token) != (declaring[0],):
                raise Stop("Differs", token, (declaring[0],), self.leads(self.now, names, token))


def slow_told(project, question, *arguments):
    """What a refactoring returns, or else what it is refused with."""
    try:
        return getattr(SlowRefactoring(project), question)(*arguments)
    except Stop as stop:
        return stop.args
