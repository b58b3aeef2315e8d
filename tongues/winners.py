"""Which items of a lexer can win, and how far its modes look ahead ([B13] to [B15])."""

from tongues.errors import TooManyStates

MOST_STATES = 200


def winners(lexer):
    """For each item of each mode its kind, its example or None, and the kinds of the items before it."""
    rows = []
    for mode in lexer.modes:
        kinds = lexer.kinds(mode)
        matched = matched_items(lexer, mode)
        for item, kind in enumerate(kinds):
            earlier = sorted({items[0] for _, items in matched if item in items and items[0] != item})
            rows.append((mode, kind, first_won(item, matched), tuple([kinds[other] for other in earlier])))
    return tuple(rows)


def mode_states(lexer, mode):
    """The states of a mode, with the states behind them. Raises TooManyStates."""
    states = lexer.automaton(mode).states(MOST_STATES)
    if states is None:
        raise TooManyStates(mode)
    return states


def matched_items(lexer, mode):
    """For each state of a mode the first text that leads to it and the items that match it, first texts first."""
    automaton = lexer.automaton(mode)
    texts = first_texts(mode_states(lexer, mode))
    return [(text, automaton.matching(state)) for state, text in texts.items()]


def first_texts(states):
    """For each state the first text that leads to it: shorter texts first, then by the order of the alphabet."""
    texts = {None: ""}
    waiting = [None]
    at = 0
    while at < len(waiting):
        state = waiting[at]
        at += 1
        for character, behind in states[state]:
            if behind not in texts:
                texts[behind] = texts[state] + character
                waiting.append(behind)
    return texts


def first_won(item, matched):
    """The first text of which the item is the first one that matches it, None if there is none."""
    for text, items in matched:
        if items and items[0] == item:
            return text
    return None


def lookahead(lexer):
    """For each mode how far it looks ahead of a token at most, None if there is no limit."""
    return tuple([(mode, mode_lookahead(lexer, mode)) for mode in lexer.modes])


def mode_lookahead(lexer, mode):
    """How far a mode looks ahead of a token at most.

    Behind its longest match, or behind the first character of a stray token, a token looks at
    characters that lead to states in which nothing matches, and then at one more character, or the end.
    """
    states = mode_states(lexer, mode)
    automaton = lexer.automaton(mode)
    unmatched = {}
    for state in states:
        reached = {behind: True for _, behind in states[state]}
        unmatched[state] = [behind for behind in reached if not automaton.matching(behind)]
    rows = longest_rows(unmatched)
    if rows is None:
        return None
    # The first character of a stray token is itself one of those that lead to such states.
    return max([rows[state] if state is None else rows[state] + 1
                for state in states if state is None or automaton.matching(state)])


def longest_rows(behind):
    """For each state how many states can follow it in a row at most, None if there is a ring."""
    rows = {state: 0 for state in behind}
    is_growing = True
    while is_growing:
        is_growing = False
        for state in behind:
            longest = max([rows[other] + 1 for other in behind[state]], default=0)
            if longest > len(behind):
                return None
            if longest > rows[state]:
                rows[state] = longest
                is_growing = True
    return rows
