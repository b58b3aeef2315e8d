"""What names lead to by the words of part G, in another way: each question is answered from the tree anew."""


class Slow:
    def __init__(self, project):
        self.project = project

    def row(self, file, row):
        return self.project.tree(file)[row]

    def text(self, file, row):
        _, _, _, _, start, stop = self.row(file, row)
        return self.project.text(file)[start:stop]

    def facts(self, file, word, node):
        return [fact for fact in self.project.language(file).names if fact[0] == word and fact[1] == node]

    def is_scope(self, file, row):
        one = self.row(file, row)
        return one[2] == "node" and one[4] < one[5] and bool(self.facts(file, "opens", one[3]))

    def scopes(self, file):
        """The rows of the scopes, None for that of the file."""
        return [None] + [row for row in range(len(self.project.tree(file))) if self.is_scope(file, row)]

    def lies(self, file, row):
        """The row of the scope in which a row lies."""
        while True:
            around, field = self.row(file, row)[:2]
            if around is None:
                return None
            if self.is_scope(file, around):
                outside = self.facts(file, "opens", self.row(file, around)[3])[0][2:]
                if field not in outside:
                    return around
            row = around

    def fact(self, file, row):
        around, field, sort = self.row(file, row)[:3]
        if sort != "token" or around is None:
            return None
        node = self.row(file, around)[3]
        for word in ("declares", "refers", "lists"):
            for fact in self.facts(file, word, node):
                if fact[2] == field:
                    return fact
        return None

    def occurrences(self, file, role=None):
        return [row for row in range(len(self.project.tree(file)))
                if self.fact(file, row) and role in (None, self.fact(file, row)[0])]

    def scope_of(self, file, row):
        """The row of the scope in which a declaration is declared, or in which another occurrence lies."""
        fact, node = self.fact(file, row), self.row(file, row)[0]
        if fact[0] != "declares":
            return self.lies(file, row)
        return node if "inside" in fact[4:] else self.lies(file, node)

    def number(self, file, scope):
        return self.scopes(file).index(scope)

    def token(self, file, node, field):
        rows = [row for row, one in enumerate(self.project.tree(file)) if one[:3] == (node, field, "token")]
        return rows[0] if rows else None

    def brought(self, file, node):
        """The name of the file that a node brings, None if its token is missing."""
        fact = self.facts(file, "brings", self.row(file, node)[3])[0]
        token = self.token(file, node, fact[2])
        if token is None:
            return None
        name = self.text(file, token)
        return name[1:len(name) - 1] if "quoted" in fact[3:] else name

    def bringing(self, file, row):
        node = self.row(file, row)[0]
        while node is not None and not self.facts(file, "brings", self.row(file, node)[3]):
            node = self.row(file, node)[0]
        return node

    def listed_from(self, file, row):
        node = self.bringing(file, row)
        return None if node is None else self.brought(file, node)

    def is_handed_on(self, file, row):
        node = self.bringing(file, row)
        return node is not None and "gives" in self.facts(file, "brings", self.row(file, node)[3])[0][3:]

    def standing(self, post, space, name, start):
        if post[1] not in self.project.file_names():
            return []
        found = []
        for row in self.occurrences(post[1], "declares"):
            fact = self.fact(post[1], row)
            if fact[3] != space or self.text(post[1], row) != name:
                continue
            scope = self.number(post[1], self.scope_of(post[1], row))
            node = self.row(post[1], row)[0]
            seen = True
            if "behind" in fact[4:]:
                seen = start >= self.row(post[1], node)[5]
            if "own" in fact[4:]:
                seen = start >= self.row(post[1], row)[4]
            if post[0] == "file":
                stands = scope == 0 and "gives" in fact[4:]
            else:
                stands = scope == post[2] and (seen or post[0] == "member")
            if stands:
                found.append((post[1], row))
        return found

    def behind(self, post, space, name):
        if post[0] == "member" or post[1] not in self.project.file_names():
            return []
        file = post[1]
        if post[0] == "scope" and post[2] > 0:
            around = self.lies(file, self.scopes(file)[post[2]])
            return [("scope", file, self.number(file, around))]
        files = []
        for row in self.occurrences(file, "lists"):
            node = self.row(file, self.row(file, row)[0])[3]
            if (self.fact(file, row)[3], self.text(file, row)) == (space, name) \
                    and not self.facts(file, "declares", node) and (post[0] == "scope" or self.is_handed_on(file, row)):
                files.append(self.listed_from(file, row) or "")
        if not files:
            for row, one in enumerate(self.project.tree(file)):
                facts = self.facts(file, "brings", one[3]) if one[2] == "node" else []
                if facts and "whole" in facts[0][3:] and (post[0] == "scope" or "gives" in facts[0][3:]) \
                        and self.brought(file, row) is not None:
                    files.append(self.brought(file, row))
        return [("file", other) for other in files]

    def search(self, first, space, name, start):
        posts, found, at = [first], set(), 0
        while at < len(posts):
            here = self.standing(posts[at], space, name, start)
            found |= set(here)
            for post in [] if here else self.behind(posts[at], space, name):
                if post not in posts:
                    posts.append(post)
            at += 1
        return posts, sorted(found)

    def leads(self, file, row):
        """The posts that are asked, and the declarations."""
        fact = self.fact(file, row)
        if fact is None:
            return [], []
        posts, first = [], None
        if fact[0] == "declares":
            first = ("member", file, self.number(file, self.scope_of(file, row)))
        elif fact[0] == "lists":
            name = self.listed_from(file, row)
            first = None if name is None else ("file", name)
        elif len(fact) == 4:
            first = ("scope", file, self.number(file, self.lies(file, row)))
        else:
            posts, first = self.within(file, self.row(file, row)[0], fact[4])
        if first is None:
            return posts, []
        more, found = self.search(first, fact[3], self.text(file, row), self.row(file, row)[4])
        return posts + more, found

    def within(self, file, node, field):
        tree = self.project.tree(file)

        def first_node(around, inner):
            return next((row for row, one in enumerate(tree) if one[:3] == (around, inner, "node")), None)

        child = first_node(node, field)
        brackets = [rule[1] for rule in self.project.language(file).rules if rule[0] == "operators"]
        while child is not None and tree[child][3] in brackets:
            child = first_node(child, "inside")
        if child is None:
            return [], None
        for fact in self.facts(file, "refers", tree[child][3]):
            token = self.token(file, child, fact[2])
            if token is not None:
                posts, found = self.leads(file, token)
                if len(found) == 1:
                    other = self.row(*found[0])[0]
                    if self.is_scope(found[0][0], other):
                        return posts, ("member", found[0][0], self.number(found[0][0], other))
                return posts, None
        return [], None
