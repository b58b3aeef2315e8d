"""What every name leads to ([G5] to [G13])."""

from tongues.errors import TongueError
from tongues.scopes import FileNames


class NoOccurrence(TongueError):
    """No occurrence has a character at a position of a file."""

    def __init__(self, file, position):
        self.file = file
        self.position = position


class Search:
    """A search for a name of a space, from a first post on, by a token that begins at start.

    `posts` is the list of the posts in the order in which they were asked, `found` the ascending
    list of the pairs (file, row) of the declarations.
    """

    def __init__(self, names, space, name, start):
        self.posts = []
        self.found = []
        self._names = names
        self._space = space
        self._name = name
        self._start = start

    def go_from(self, first):
        """Asks all posts from a first one on."""
        self.posts.append(first)
        asked_posts = 0
        while asked_posts < len(self.posts):
            post = self.posts[asked_posts]
            asked_posts += 1
            rows = self.standing(post)
            self.found.extend([(post[1], row) for row in rows])
            if not rows:
                self.posts.extend(self._unknown(self._followers(post)))
        self.found = sorted(self.found)

    def standing(self, post):
        """The list of the rows of the declarations that stand at a post."""
        if not self._names.has_file(post[1]):
            return []
        names = self._names.of_file(post[1])
        if post[0] == "file":
            return [one.row for one in names.given(self._space, self._name)]
        declared = names.declarations(post[2], self._space, self._name)
        return [one.row for one in declared if post[0] == "member" or one.is_seen_from(self._start)]

    def _unknown(self, posts):
        """Those of some posts that are not known yet, each once."""
        return [post for place, post in enumerate(posts) if post not in self.posts and post not in posts[:place]]

    def _followers(self, post):
        """The list of the posts that follow a post at which no declaration stands."""
        if post[0] == "member" or not self._names.has_file(post[1]):
            return []
        names = self._names.of_file(post[1])
        if post[0] == "scope" and post[2] > 0:
            return [("scope", post[1], names.scopes[post[2]][3])]
        return [("file", file) for file in names.followers(self._space, self._name, post[0] == "file")]


class Names:
    """What the names of a project lead to; what was found is kept.

    `renamed` is a dict from pairs (file, row) to names that tokens have in place of their texts.
    """

    def __init__(self, project, renamed=None):
        self._project = project
        self._renamed = {} if renamed is None else {place: renamed[place] for place in renamed}
        self._files = {}
        self._ways = {}

    def row_leads(self, file, row):
        """The ascending tuple of the declarations, pairs (file, row), to which the token of a row leads."""
        return self.way_of(file, row)[1]

    def has_file(self, file):
        """True if the project has a file of this name."""
        return file in self._project.file_names()

    def of_file(self, file):
        """The names of a file. Raises NoFile."""
        if file not in self._files:
            tree = self._project.tree(file)
            renamed = {row: name for (other, row), name in self._renamed.items() if other == file}
            self._files[file] = FileNames(self._project.language(file), self._project.text(file), tree, renamed)
        return self._files[file]

    def occurrences(self):
        """The list of the pairs of a file and an occurrence, in the order of the files and of the text."""
        return [(file, one) for file in self._project.file_names() for one in self.of_file(file).occurrences]

    def leads_of(self, token):
        """The tuple of the declarations, each (file, start, stop), to which a token (file, start, stop) leads."""
        occurrence = self.of_file(token[0]).starting_at(token[1])
        return () if occurrence is None else self.places(self.row_leads(token[0], occurrence.row))

    def way_of(self, file, row):
        """The posts that are asked for the token of a row, the declarations to which it leads, and its first post."""
        occurrence = self.of_file(file).occurrence(row)
        if occurrence is None:
            return ((), (), None)
        if (file, row) not in self._ways:
            self._ways[file, row] = self._found_way(file, occurrence)
        return self._ways[file, row]

    def places(self, rows):
        """The tuple of the (file, start, stop) of some rows of files."""
        return tuple([(file, self._project.tree(file)[row][4], self._project.tree(file)[row][5])
                      for file, row in rows])

    def _found_way(self, file, occurrence):
        posts = ()
        first = self._first_post(file, occurrence)
        if occurrence.role == "refers" and occurrence.rest:
            posts, first = self._within(file, occurrence)
        if first is None:
            return (posts, (), None)
        search = Search(self, occurrence.space, occurrence.name, occurrence.start)
        search.go_from(first)
        return (posts + tuple(search.posts), tuple(search.found), first)

    def _first_post(self, file, occurrence):
        """The first post of an occurrence that does not refer within a child, None if there is none."""
        if occurrence.role == "declares":
            return ("member", file, occurrence.scope)
        if occurrence.role == "refers":
            return ("scope", file, occurrence.scope)
        listed = self.of_file(file).listed_file(occurrence)
        return None if listed is None else ("file", listed)

    def _within(self, file, occurrence):
        """The posts for the own reference of the child of a reference, and the first post of the reference or None."""
        row = self.of_file(file).own_reference(occurrence)
        if row is None:
            return ((), None)
        posts, leads, _ = self.way_of(file, row)
        if len(leads) != 1:
            return (posts, None)
        names = self.of_file(leads[0][0])
        scope = names.opened_scope(names.occurrence(leads[0][1]).node)
        return (posts, None if scope is None else ("member", leads[0][0], scope))


def scopes_of(project, file):
    """The tuple of the scopes of a file, each (start, stop, node, around)."""
    return tuple(Names(project).of_file(file).scopes)


def occurrences_of(project, file):
    """The tuple of the occurrences of a file, each (start, stop, name, space, role, scope)."""
    return tuple([(one.start, one.stop, one.name, one.space, one.role, one.scope)
                  for one in Names(project).of_file(file).occurrences])


def leads_to(project, file, at):
    """The tuple of the declarations, each (file, start, stop), to which the occurrence at a position leads."""
    names = Names(project)
    return names.places(names.row_leads(file, occurrence_row(names, file, at)))


def asked(project, file, at):
    """The tuple of the posts that are asked for the occurrence at a position, in order."""
    names = Names(project)
    return names.way_of(file, occurrence_row(names, file, at))[0]


def given_out(project, file, space, name):
    """The tuple of the declarations that are found from a file on, as others see it."""
    names = Names(project)
    names.of_file(file)
    search = Search(names, space, name, 0)
    search.go_from(("file", file))
    return names.places(search.found)


def occurrence_row(names, file, at):
    """The row of the occurrence with the character at a position. Raises NoFile, then NoOccurrence."""
    row = names.of_file(file).row_at(at)
    if row is None:
        raise NoOccurrence(file, at)
    return row
