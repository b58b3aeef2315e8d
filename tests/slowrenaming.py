"""Renaming by the words of part J, in another way: in texts that are really changed, and over all sets."""

import itertools

from tests.slownames import Slow
from tongues.texts import apply_change
from tongues.tokens import tokens


class Wrong(Exception):
    """An error of a renaming: the name of its class, and the file and the position."""


class Renamed(Slow):
    """A project in which some tokens have other names than their texts."""

    def __init__(self, project, renamed):
        super().__init__(project)
        self.renamed = renamed

    def text(self, file, row):
        return self.renamed.get((file, row)) or super().text(file, row)


def all_leads(slow):
    """For each occurrence, in order, the declarations to which it leads."""
    return {(file, row): slow.leads(file, row)[1] for file in slow.project.file_names()
            for row in slow.occurrences(file)}


def start_of(project, place):
    return project.tree(place[0])[place[1]][4]


class SlowRenaming:
    def __init__(self, project, file, at, name):
        self.project, self.name = project, name
        self.slow = Slow(project)
        self.leads = all_leads(self.slow)
        met = [place for place in self.leads if place[0] == file
               and project.tree(file)[place[1]][4] <= at < project.tree(file)[place[1]][5]]
        if not met:
            raise Wrong("NoOccurrence", file, at)
        led = self.leads[met[0]]
        if len(led) != 1:
            raise Wrong("LeadsToSeveral" if led else "LeadsNowhere", file, start_of(project, met[0]))
        self.meant = led[0]
        for place, found in self.leads.items():
            if self.meant in found and len(found) > 1:
                raise Wrong("LeadsToOthers", place[0], start_of(project, place))
        self.given = {place: name for place, found in self.leads.items() if found == [self.meant]}
        self.old_name = self.slow.text(*self.meant)
        self.changes, self.texts = {}, {}
        for other in project.file_names():
            self.take_file(other)

    def take_file(self, file):
        text, lexer = self.project.text(file), self.project.language(file).lexer
        starts = [start_of(self.project, place) for place in self.given if place[0] == file]
        new, expected, pieces = "", [], []
        for kind, start, stop, _, _ in tokens(lexer, text):
            put = self.name if start in starts else text[start:stop]
            expected.append((kind, put, start))
            if start in starts and put != text[start:stop]:
                pieces.append((start, stop, put))
            new += put
        told = [(kind, new[start:stop]) for kind, start, stop, _, _ in tokens(lexer, new)]
        for number, (kind, put, start) in enumerate(expected):
            if told[:number + 1] != [one[:2] for one in expected[:number + 1]]:
                raise Wrong("ReadOtherwise", file, start)
        joined = []
        for start, stop, put in pieces:
            if joined and joined[-1][1] == start:
                start, _, ahead = joined.pop()
                put = ahead + put
            joined.append((start, stop, put))
        if joined:
            self.changes[file] = tuple(joined)
            self.texts[file] = new
        assert apply_change(text, joined) == new

    def rename(self):
        """The changes; the project after them is made and looked at anew."""
        after = Slow(self.project.with_texts(self.texts))
        leads = all_leads(after)
        assert list(leads) == list(self.leads)
        for place in leads:
            if leads[place] != self.leads[place]:
                raise Wrong("LeadsElsewhere", place[0], start_of(self.project, place))
        return self.changes

    def first_post(self, place):
        posts = self.own_posts(self.slow, place, self.slow.text(*place))
        return posts[0] if posts else None

    def own_posts(self, slow, place, name):
        """The posts that are asked for a name from the first post that an occurrence has before the renaming."""
        file, row = place
        fact = self.slow.fact(file, row)
        if fact[0] == "declares":
            first = ("member", file, self.slow.number(file, self.slow.scope_of(file, row)))
        elif fact[0] == "lists":
            first = self.slow.listed_from(file, row)
            first = None if first is None else ("file", first)
        elif len(fact) == 4:
            first = ("scope", file, self.slow.number(file, self.slow.lies(file, row)))
        else:
            first = self.slow.within(file, self.slow.row(file, row)[0], fact[4])[1]
        self.found = []
        if first is None:
            return []
        posts, self.found = slow.search(first, fact[3], name, start_of(self.project, place))
        return posts

    def clashes(self):
        if self.name == self.old_name:
            return ()
        after, told = Renamed(self.project, self.given), []
        space = self.slow.fact(*self.meant)[3]
        for place in self.leads:
            word = None
            if place in self.given:
                self.own_posts(after, place, self.name)
                if any(other != self.meant for other in self.found):
                    word = "met"
                elif not self.found:
                    word = "lost"
            elif (self.slow.fact(*place)[3], self.slow.text(*place)) == (space, self.name):
                if any(self.is_in_the_way(post, place) for post in self.own_posts(self.slow, place, self.name)):
                    word = "taken"
            if word:
                told.append(((place[0], *self.project.tree(place[0])[place[1]][4:]), word))
        return tuple(told)

    def is_in_the_way(self, post, place):
        slow, start = self.slow, start_of(self.project, place)
        space, old = slow.fact(*self.meant)[3], slow.text(*self.meant)
        if self.meant in slow.standing(post, space, old, start):
            return True
        if slow.standing(post, space, self.name, start):
            return False
        for file, row in self.given:
            if slow.fact(file, row)[0] == "lists" \
                    and not slow.facts(file, "declares", slow.row(file, slow.row(file, row)[0])[3]):
                if post == ("scope", file, 0) or (post == ("file", file) and slow.is_handed_on(file, row)):
                    return True
        return False

    def is_saved_by(self, others):
        renamed = dict(self.given)
        for number, other in enumerate(others):
            renamed.update({place: f"{number} own" for place, found in self.leads.items() if found == [other]})
        after = Renamed(self.project, renamed)
        return all(after.leads(*place)[1] == found for place, found in self.leads.items())

    def saving(self):
        """The set that saves, by trying all sets of other declarations; that it is contained in all others is checked."""
        others = [place for place in self.leads if self.slow.fact(*place)[0] == "declares" and place != self.meant]
        saving = [set(some) for many in range(len(others) + 1) for some in itertools.combinations(others, many)
                  if self.is_saved_by(some)]
        if not saving:
            return None
        assert all(saving[0] <= some for some in saving)
        return tuple(sorted((file, *self.project.tree(file)[row][4:]) for file, row in saving[0]))
