"""Renaming declarations, and the names with which this clashes ([J4] to [J8])."""

from tongues.errors import TongueError
from tongues.lookups import Names, Search, occurrence_row
from tongues.tokens import tokens


class RenamingError(TongueError):
    """A renaming is not possible: the file and the position of the occurrence or token that prevents it."""

    def __init__(self, file, position):
        self.file = file
        self.position = position


class LeadsNowhere(RenamingError):
    """The occurrence leads to no declaration."""


class LeadsToSeveral(RenamingError):
    """The occurrence leads to more than one declaration."""


class LeadsToOthers(RenamingError):
    """An occurrence leads to the declaration and to another one, too."""


class ReadOtherwise(RenamingError):
    """A token would be read otherwise with the new names."""


class LeadsElsewhere(RenamingError):
    """An occurrence would differ after the renaming."""


class Renaming:
    """A renaming of the declaration that an occurrence means; raises the errors of [J6].

    `names` are the names of the project as it is, `meant` is the (file, row) of the declaration,
    `renamed` a dict from the (file, row) of the occurrences that get the new name to this name.
    """

    def __init__(self, project, file, at, name):
        self.project = project
        self.name = name
        self.names = Names(project)
        self.meant = self._meant_declaration(file, at)
        self.declaration = self.names.of_file(self.meant[0]).occurrence(self.meant[1])
        self.renamed = {}
        for other, one in self.names.occurrences():
            leads = self.names.row_leads(other, one.row)
            if self.meant in leads:
                if len(leads) > 1:
                    raise LeadsToOthers(other, one.start)
                self.renamed[other, one.row] = name
        for other in project.file_names():
            self._check_reading(other)

    def is_same(self):
        """True if the new name is the one that the declaration has."""
        return self.declaration.name == self.name

    def change_of(self, file):
        """The change of the text of a file."""
        pieces = []
        for one in self.names.of_file(file).occurrences:
            if (file, one.row) in self.renamed and not self.is_same():
                if pieces and pieces[-1][1] == one.start:
                    start, _, put = pieces.pop()
                    pieces.append((start, one.stop, put + self.name))
                else:
                    pieces.append((one.start, one.stop, self.name))
        return tuple(pieces)

    def _check_reading(self, file):
        """Raises ReadOtherwise for the first token of a file that would be read otherwise."""
        starts = {one.start: True for one in self.names.of_file(file).occurrences if (file, one.row) in self.renamed}
        lexer, text = self.project.language(file).lexer, self.project.text(file)
        old = tokens(lexer, text)
        texts = [self.name if token[1] in starts else text[token[1]:token[2]] for token in old]
        new_text = "".join(texts)
        new = [(token[0], new_text[token[1]:token[2]]) for token in tokens(lexer, new_text)]
        for number, token in enumerate(old):
            if new[number:number + 1] != [(token[0], texts[number])]:
                raise ReadOtherwise(file, token[1])

    def _meant_declaration(self, file, at):
        """The (file, row) of the declaration that the occurrence at a position means."""
        row = occurrence_row(self.names, file, at)
        leads = self.names.row_leads(file, row)
        start = self.names.of_file(file).occurrence(row).start
        if not leads:
            raise LeadsNowhere(file, start)
        if len(leads) > 1:
            raise LeadsToSeveral(file, start)
        return leads[0]


def rename(project, file, at, name):
    """A dict from the files whose texts change when a declaration gets a new name to the changes."""
    renaming = Renaming(project, file, at, name)
    names = Names(project, renaming.renamed)
    for other, one in renaming.names.occurrences():
        if names.row_leads(other, one.row) != renaming.names.row_leads(other, one.row):
            raise LeadsElsewhere(other, one.start)
    changes = {other: renaming.change_of(other) for other in project.file_names()}
    return {other: change for other, change in changes.items() if change}


def clashes(project, file, at, name):
    """The tuple of the pairs (occurrence, word) of the occurrences with which a renaming clashes."""
    renaming = Renaming(project, file, at, name)
    if renaming.is_same():
        return ()
    names = Names(project, renaming.renamed)
    found = []
    for other, one in renaming.names.occurrences():
        if (other, one.row) in renaming.renamed:
            word = clash_of_renamed(renaming, names, other, one)
        else:
            word = "taken" if is_taken(renaming, other, one) else None
        if word is not None:
            found.append(((other, one.start, one.stop), word))
    return tuple(found)


def clash_of_renamed(renaming, names, file, occurrence):
    """How an occurrence that gets the new name clashes, by the names after the renaming; None if it does not."""
    found = found_anew(renaming, names, file, occurrence)
    if not found:
        return "lost"
    return "met" if [other for other in found if other != renaming.meant] else None


def found_anew(renaming, names, file, occurrence):
    """What is found for an occurrence after the renaming from the first post that it has before, as (file, row)."""
    first = renaming.names.way_of(file, occurrence.row)[2]
    if first is None:
        return []
    after = names.of_file(file).occurrence(occurrence.row)
    search = Search(names, after.space, after.name, after.start)
    search.go_from(first)
    return search.found


def is_taken(renaming, file, occurrence):
    """True if the renamed declaration, or a renamed listed name, would stand in the way of another occurrence."""
    if (occurrence.space, occurrence.name) != (renaming.declaration.space, renaming.name):
        return False
    first = renaming.names.way_of(file, occurrence.row)[2]
    if first is None:
        return False
    search = Search(renaming.names, occurrence.space, occurrence.name, occurrence.start)
    search.go_from(first)
    in_the_way = introducing_posts(renaming)
    for post in search.posts:
        if stands_at(renaming, post, occurrence.start):
            return True
        if post in in_the_way and not search.standing(post):
            return True
    return False


def introducing_posts(renaming):
    """The list of the posts at which listed names that get the new name introduce it."""
    posts = []
    for file, row in renaming.renamed:
        names = renaming.names.of_file(file)
        one = names.occurrence(row)
        if names.is_introducing(one):
            posts.append(("scope", file, 0))
            if names.is_handed_on(one):
                posts.append(("file", file))
    return posts


def stands_at(renaming, post, start):
    """True if the renamed declaration, whatever its name is, stands at a post for a token that begins at start."""
    declaration = renaming.declaration
    if post[1] != renaming.meant[0]:
        return False
    if post[0] == "file":
        return declaration.scope == 0 and "gives" in declaration.rest
    if post[2] != declaration.scope:
        return False
    return post[0] == "member" or declaration.is_seen_from(start)
