"""States that letters lead to states: which of them are alike, and the fewest that do the same."""

from letterfolds.graphs import reached_from


class Blocks:
    """Classes of states that are split step by step, and those that are still to be asked what leads to them."""

    def __init__(self, marks):
        numbers = {}
        self.block_of = []
        for mark in marks:
            self.block_of.append(numbers.setdefault(mark, len(numbers)))
        self.members = [{} for _ in numbers]
        for state, block in enumerate(self.block_of):
            self.members[block][state] = True
        self.waiting = list(range(len(numbers)))
        self._is_waiting = [True] * len(numbers)

    def taken(self):
        """The list of the states of a class that waits; it waits no longer."""
        block = self.waiting.pop()
        self._is_waiting[block] = False
        return list(self.members[block])

    def set_apart(self, states):
        """Makes a class of its own of some states of one class, if these are not all."""
        old = self.block_of[states[0]]
        if len(states) == len(self.members[old]):
            return
        new = len(self.members)
        self.members.append({})
        for state in states:
            del self.members[old][state]
            self.members[new][state] = True
            self.block_of[state] = new
        # What led to the old class led to all of it alike, unless it waits: so the smaller part is enough.
        is_new_less = len(self.members[new]) < len(self.members[old])
        self._is_waiting.append(False)
        least = new if self._is_waiting[old] or is_new_less else old
        self._is_waiting[least] = True
        self.waiting.append(least)


def least_alike(rows, marks):
    """For each state the least state from which the same words lead to the same marks."""
    begins = [[[] for _ in rows] for _ in rows[0]]
    for state, row in enumerate(rows):
        for letter, end in enumerate(row):
            begins[letter][end].append(state)
    blocks = Blocks(marks)
    while blocks.waiting:
        ends = blocks.taken()
        for lines in begins:
            found = {}
            for end in ends:
                for state in lines[end]:
                    found.setdefault(blocks.block_of[state], []).append(state)
            for states in found.values():
                blocks.set_apart(states)
    leasts = {}
    return [leasts.setdefault(block, state) for state, block in enumerate(blocks.block_of)]


def fewest_states(rows, start, marks):
    """The pair of rows and marks of the fewest states that lead the same words from the start to the same marks.

    They are numbered in the order of the least words that lead to them.
    """
    order = reached_from(rows, start)
    places = {state: place for place, state in enumerate(order)}
    met = [[places[end] for end in rows[state]] for state in order]
    alike = least_alike(met, [marks[state] for state in order])
    # A state that comes first of its like has the least word of all these.
    firsts = [place for place, least in enumerate(alike) if place == least]
    numbers = {place: number for number, place in enumerate(firsts)}
    return ([[numbers[alike[end]] for end in met[place]] for place in firsts],
            [marks[order[place]] for place in firsts])
