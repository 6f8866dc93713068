"""Strings that two codebooks decode to different names, and tables that show that there is no such string."""

from keptcode.codebooks import DIGITS, ancestors, is_name
from keptcode.coding import decode, names_by_codeword
from keptcode.errors import InvalidPair

START = "0"
NO_DIFFERENCE = ((), ())


def check_pair(first, second):
    """Raise InvalidPair if two codebooks differ in their radix."""
    if first.radix != second.radix:
        raise InvalidPair("the codebooks have different radices")


def words_by_prefix(words):
    """Return the dict from the proper prefixes of codewords to the ascending lists of these codewords."""
    found = {}
    for word in sorted(words):
        for prefix in ancestors(word):
            found.setdefault(prefix, []).append(word)
    return found


def taker(state):
    """Return the index of the codebook that takes a name in a state."""
    return 0 if state == START else 1 - int(state[0])


def state_behind(state, word):
    """Return the state behind a step that takes a codeword."""
    digits = state[1:]
    if word == digits:
        return START
    if len(word) < len(digits):
        return state[0] + digits[len(word):]
    return str(taker(state)) + word[len(digits):]


class Takers:
    """Two codebooks that take names by turns."""

    def __init__(self, first, second):
        self.depths = (first.depth, second.depth)
        self.owners = (names_by_codeword(first), names_by_codeword(second))
        self.longer = (words_by_prefix(self.owners[0]), words_by_prefix(self.owners[1]))

    def fitting_words(self, index, digits):
        """Return the list of the codewords of a codebook that digits begin with or that begin with the digits."""
        ends = range(1, min(len(digits), self.depths[index]) + 1)
        shorter = [digits[:end] for end in ends if digits[:end] in self.owners[index]]
        return shorter + self.longer[index].get(digits, [])

    def steps_from(self, state):
        """Return the list of the steps from a state: tuples (name, state behind it, digits that it adds)."""
        index = taker(state)
        digits = state[1:]
        return [
            (self.owners[index][word], state_behind(state, word), word[len(digits):])
            for word in self.fitting_words(index, digits)
        ]


def difference_behind(difference, index, name):
    """Return the difference behind a step that takes a name, or None if there is a mismatch in it or before."""
    if difference is None:
        return None
    sides = list(difference)
    sides[index] = sides[index] + (name,)
    first, second = sides
    if not first or not second:
        return first, second
    if first[0] != second[0]:
        return None
    return first[1:], second[1:]


def reachable_steps(takers):
    """Return the dict from the states that can be reached from the start to their steps."""
    found = {}
    waiting = [START]
    while waiting:
        state = waiting.pop()
        if state not in found:
            found[state] = takers.steps_from(state)
            waiting.extend([target for _, target, _ in found[state]])
    return found


def ways_back(steps):
    """Return the dict from the states from which the start can be reached to the digits that are added on the way."""
    before = {state: [] for state in steps}
    for state, taken in steps.items():
        for _, target, added in taken:
            before[target].append((state, added))
    found = {START: ""}
    layer = [START]
    while layer:
        reached = []
        for target in layer:
            for state, added in before[target]:
                if state not in found:
                    found[state] = added + found[target]
                    reached.append(state)
        layer = reached
    return found


def ways_there(steps, back):
    """Return the dict from the states with a way back to the pair (digits, difference) of a way from the start."""
    found = {START: ("", NO_DIFFERENCE)}
    layer = [START]
    while layer:
        reached = []
        for state in layer:
            digits, difference = found[state]
            for name, target, added in steps[state]:
                if target in back and target not in found:
                    found[target] = (digits + added, difference_behind(difference, taker(state), name))
                    reached.append(target)
        layer = reached
    return found


class Survey:
    """The states of two codebooks that can be reached from the start, and the ways between them and the start."""

    def __init__(self, first, second):
        check_pair(first, second)
        self.books = (first, second)
        self.step_lists = reachable_steps(Takers(first, second))
        self.endings = ways_back(self.step_lists)
        self.beginnings = ways_there(self.step_lists, self.endings)

    def disagreements(self):
        """Return the list of pairs of strings, one of which confuses, for the steps that do not fit the ways."""
        found = []
        for state, (digits, difference) in self.beginnings.items():
            for name, target, added in self.step_lists[state]:
                if target in self.endings:
                    other_digits, other_difference = self.beginnings[target]
                    # A mismatch does not fit at the start at the latest.
                    if difference_behind(difference, taker(state), name) != other_difference:
                        # The same ending cannot make up for two differences.
                        ending = self.endings[target]
                        found.append((digits + added + ending, other_digits + ending))
        return found

    def confusing_digits(self):
        """Return a string that confuses the codebooks, or None if there is none."""
        first, second = self.books
        for pair in self.disagreements():
            for digits in pair:
                if decode(first, digits) != decode(second, digits):
                    return digits
        return None


def confusing(first, second):
    """Return a string that confuses two codebooks, or None if there is none."""
    return Survey(first, second).confusing_digits()


def confusion_table(first, second):
    """Return the confusion table of the states that can be reached, or None if some string confuses."""
    survey = Survey(first, second)
    if survey.disagreements():
        return None
    found = survey.beginnings
    return {state: found[state][1] if state in found else None for state in sorted(survey.step_lists)}


def is_state(radix, thing):
    """Tell whether a thing is a state of two codebooks."""
    if not isinstance(thing, str) or thing[:1] not in ("0", "1"):
        return False
    if len(thing) == 1:
        return thing == START
    return all([digit in DIGITS[:radix] for digit in thing[1:]])


def is_difference(thing):
    """Tell whether a thing is a pair of tuples of names, at least one of them empty."""
    if not isinstance(thing, tuple) or len(thing) != 2 or not all([isinstance(side, tuple) for side in thing]):
        return False
    first, second = thing
    return (not first or not second) and all([is_name(name) for name in first + second])


def keeps_rules(takers, table, state):
    """Tell whether a table has the right value for the state behind each step from a state."""
    for name, target, _ in takers.steps_from(state):
        if target not in table:
            return False
        # Behind a mismatch, and behind a state without a difference, only None is right.
        wanted = difference_behind(table[state], taker(state), name)
        if table[target] is not None and table[target] != wanted:
            return False
    return True


def check_table(first, second, thing):
    """Tell whether a thing is a confusion table."""
    check_pair(first, second)
    if not isinstance(thing, dict) or not all([is_state(first.radix, state) for state in thing]):
        return False
    if not all([value is None or is_difference(value) for value in thing.values()]):
        return False
    takers = Takers(first, second)
    return thing.get(START) == NO_DIFFERENCE and all([keeps_rules(takers, thing, state) for state in thing])
