"""The problems of a file ([I10])."""

from tongues.trees import problems_of


def problems(answers, file):
    """The ascending tuple of the (start, stop, sort, text) of the problems of a file."""
    tree = answers.project.tree(file)
    found = [("skipped", start, stop, "") if name is None else ("missing", start, stop, name[1])
             for start, stop, name in problems_of(tree)]
    found.extend(name_problems(answers, file))
    found.extend(file_problems(answers, file))
    found.extend(check_problems(answers, file))
    found.extend(cycle_problems(answers, file))
    return tuple(sorted([(start, stop, sort, text) for sort, start, stop, text in found]))


def name_problems(answers, file):
    """The list of the names that are declared twice, or that lead nowhere or to several declarations."""
    found = []
    names = answers.instances.names
    declared = {}
    for one in names.of_file(file).occurrences:
        sort = None
        if one.role == "declares":
            place = (one.name, one.space, one.scope)
            sort = "twice" if place in declared else None
            declared[place] = True
        else:
            many = len(names.row_leads(file, one.row))
            sort = "nowhere" if many == 0 else "several" if many > 1 else None
        if sort is not None:
            found.append((sort, one.start, one.stop, one.name))
    return found


def file_problems(answers, file):
    """The list of the files that are brought and that the project does not have."""
    tree = answers.project.tree(file)
    names = answers.instances.names
    found = []
    for row, name in names.of_file(file).brought_files():
        if name is not None and not names.has_file(name):
            token = names.of_file(file).file_token(row)
            found.append(("no file", tree[token][4], tree[token][5], name))
    return found


def check_problems(answers, file):
    """The list of the checks whose conditions are false."""
    tree = answers.project.tree(file)
    instances = answers.instances
    file_nodes = instances.of_file(file)
    found = []
    for row in file_nodes.nodes.numbers():
        for node, condition, message in file_nodes.sections.checks:
            if node == tree[row][3] and instances.expression_value(file, row, condition) == ("boolean", False):
                told = instances.expression_value(file, row, message)
                found.append(("check", tree[row][4], tree[row][5], told[1] if told[0] == "text" else ""))
    return found


def cycle_problems(answers, file):
    """The list of the cycles of instances whose first instance is in a file."""
    tree = answers.project.tree(file)
    first_ones = [ring[0] for ring in answers.instances.rings()]
    return [("cycle", tree[row][4], tree[row][5], name) for other, row, name in first_ones if other == file]
