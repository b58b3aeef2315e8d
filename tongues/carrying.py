"""Which tokens of a changed project come from which tokens of the old one, and lead alike ([J1] to [J3])."""

from tongues.lookups import Names
from tongues.texts import carry_place
from tongues.trees import parser_tokens_of


def parser_tokens(project, file):
    """The list of the tokens (file, start, stop) of a file that are given to the parser, in order."""
    language = project.language(file)
    return [(file, start, stop) for _, start, stop, _, _
            in parser_tokens_of(language, project.text(file), language.modes[0])]


def carried_tokens(before, after, changes):
    """The list of the pairs of an old token and the new one to which it is carried by the changes of the files."""
    pairs = []
    for file in before.file_names():
        marks = [(carry_place(len(before.text(file)), changes.get(file, ()), token[1]), token)
                 for token in parser_tokens(before, file)]
        pairs.extend(found_tokens(before, after, file, marks))
    return pairs


def found_tokens(before, after, file, marks):
    """The list of the pairs (old, new) for marks in a file: pairs of a place, or None, and an old token.

    A mark counts if a token with the text of the old one begins at the place.
    """
    text = after.text(file)
    new_ones = {token[1]: token for token in parser_tokens(after, file)}
    pairs = []
    for place, old in marks:
        new = new_ones.get(place)
        if new is not None and text[new[1]:new[2]] == before.text(old[0])[old[1]:old[2]]:
            pairs.append((old, new))
    return pairs


def differing(before, after, carried):
    """The first new token that differs, with what its old one led to and what it leads to; None if none does."""
    for _, new, led, leads in all_differing(Names(before), Names(after), carried):
        return (new, led, leads)
    return None


def all_differing(before, after, carried):
    """The list of (old, new, led, leads) for all new tokens that differ, in order.

    `before` and `after` are the names of the old and of the new project.
    """
    origins = {new: old for old, new in carried}
    found = []
    for new in sorted(origins):
        if after.of_file(new[0]).starting_at(new[1]) is not None:
            led, leads = before.leads_of(origins[new]), after.leads_of(new)
            if not is_alike(led, leads, origins):
                found.append((origins[new], new, led, leads))
    return found


def is_alike(led, leads, origins):
    """True if some declarations come from exactly those to which the old token led."""
    came_from = [origins.get(declaration) for declaration in leads]
    return all([old in led for old in came_from]) and all([old in came_from for old in led])
