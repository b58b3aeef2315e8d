"""Which other declarations would have to get names of their own for a renaming to be possible ([J9])."""

from tongues.lookups import Names
from tongues.renaming import Renaming, found_anew


def saving(project, file, at, name):
    """The ascending tuple of the declarations that save a renaming, as few as possible; None if none do."""
    renaming = Renaming(project, file, at, name)
    saved = {}
    more = []
    while more is not None:
        for declaration in more:
            saved[declaration] = True
        more = needed_declarations(renaming, saved)
        if more == []:
            return renaming.names.places(sorted(saved))
    return None


def needed_declarations(renaming, saved):
    """The list of further declarations that all sets contain that save a renaming; None if there is no such set.

    An occurrence that gets the new name cannot do with another declaration that it finds. Any
    other one that differs gets on only with a name that its declaration has alone.
    """
    names = Names(renaming.project, names_with_own(renaming, saved))
    needed = []
    is_differing = False
    for file, one in renaming.names.occurrences():
        led = renaming.names.row_leads(file, one.row)
        found = found_anew(renaming, names, file, one)
        if tuple(found) == led:
            continue
        is_differing = True
        if (file, one.row) in renaming.renamed:
            needed.extend([other for other in found if other != renaming.meant])
        elif len(led) == 1:
            needed.append(led[0])
        else:
            return None
    further = [declaration for declaration in needed if declaration not in saved]
    return None if is_differing and not further else further


def names_with_own(renaming, saved):
    """The names of occurrences, by their (file, row), after a renaming in which declarations get names of their own."""
    named = {place: renaming.renamed[place] for place in renaming.renamed}
    for file, one in renaming.names.occurrences():
        leads = renaming.names.row_leads(file, one.row)
        if len(leads) == 1 and leads[0] in saved:
            # A tuple is a name of its own, as all names that stand in texts are strings.
            named[file, one.row] = ("own", leads[0])
    return named
