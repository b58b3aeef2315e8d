"""Automata that match several patterns at once (parts [B3] and [B13])."""

from tongues.patterns import ALPHABET, can_be_empty


class Automaton:
    """Matches items, given as the trees of patterns, character by character.

    Each `chars` of the trees is a place, a number. A state is the ascending tuple of the places
    that can have matched the last character that was read; None is the beginning.
    """

    def __init__(self, trees):
        self._characters = []
        self._followers = []
        self._firsts = []
        self._ended = {}
        self._moved = {}
        self._matched = {}
        for item, tree in enumerate(trees):
            firsts, lasts = self._number(tree)
            self._firsts.extend(firsts)
            for place in lasts:
                self._ended[place] = item

    def after(self, state, character):
        """The state behind one more character; the empty tuple if no item goes on so."""
        return self._moves(state).get(character, ())

    def matching(self, state):
        """The ascending list of the indexes of the items that match exactly what was read."""
        if state is None:
            return []
        if state not in self._matched:
            items = sorted({self._ended[place] for place in state if place in self._ended})
            self._matched[state] = items
        return list(self._matched[state])

    def states(self, most):
        """For each state its characters and the states behind them; None if there are more than most."""
        found = {}
        waiting = [None]
        met = {None: True}
        while len(found) < len(waiting) <= most:
            state = waiting[len(found)]
            moves = self._moves(state)
            found[state] = [(character, moves[character]) for character in ALPHABET if character in moves]
            for _, behind in found[state]:
                if behind not in met:
                    met[behind] = True
                    waiting.append(behind)
        if len(waiting) > most:
            return None
        return found

    def _number(self, tree):
        """Gives the places of a tree their numbers: the lists of its first and of its last places."""
        sort, inside = tree
        if sort == "chars":
            place = len(self._characters)
            self._characters.append(inside)
            self._followers.append({})
            return [place], [place]
        if sort == "row":
            return self._number_row(inside)
        if sort == "either":
            return self._number_either(inside)
        firsts, lasts = self._number(inside)
        if sort != "maybe":
            self._link(lasts, firsts)
        return firsts, lasts

    def _number_row(self, trees):
        firsts = []
        lasts = []
        is_beginning = True
        for tree in trees:
            inner_firsts, inner_lasts = self._number(tree)
            self._link(lasts, inner_firsts)
            is_empty = can_be_empty(tree)
            if is_beginning:
                firsts = firsts + inner_firsts
            lasts = lasts + inner_lasts if is_empty else inner_lasts
            is_beginning = is_beginning and is_empty
        return firsts, lasts

    def _number_either(self, trees):
        firsts = []
        lasts = []
        for tree in trees:
            inner_firsts, inner_lasts = self._number(tree)
            firsts.extend(inner_firsts)
            lasts.extend(inner_lasts)
        return firsts, lasts

    def _link(self, places, followers):
        """Each of the followers can match the character behind that of each of the places."""
        for place in places:
            for follower in followers:
                self._followers[place][follower] = True

    def _moves(self, state):
        """For each character that can come behind a state the state behind it."""
        if state not in self._moved:
            places = {}
            for place in self._places_behind(state):
                for character in self._characters[place]:
                    places.setdefault(character, []).append(place)
            self._moved[state] = {character: tuple(row) for character, row in places.items()}
        return self._moved[state]

    def _places_behind(self, state):
        """The ascending list of the places that can match the character behind a state."""
        if state is None:
            return self._firsts
        return sorted({follower for place in state for follower in self._followers[place]})


def matches(tree, text):
    """True if the pattern of a tree matches the whole text."""
    if text == "":
        return can_be_empty(tree)
    automaton = Automaton([tree])
    state = None
    for character in text:
        state = automaton.after(state, character)
    return automaton.matching(state) == [0]
