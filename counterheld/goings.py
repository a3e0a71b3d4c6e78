"""How a book goes from bar to bar of a box."""

from counterheld.kinds import is_row, is_whole
from counterheld.steps import silence

# The place ahead of the first bar of a word.
START = (None, 0)


class Goings:
    """What a book does with the bars of a box.

    A place is a pair (bar, state): the number of the last bar, or None if there is none yet, and the state of the book
    behind it. A row has for each bar of the box the state of the book behind it, or None if the book does not let it.
    """

    def __init__(self, steps, box):
        self.steps = steps
        self.box = box
        self.tables = [steps.table(bar) for bar in box]
        self.states = {}
        # The ways of all words, once they are asked for.
        self.words = None

    def states_from(self, column, state):
        """The row behind a column, from a state."""
        told = []
        for bar, table in zip(self.box, self.tables):
            told.append(end_of(self.steps.step(column, bar[0]), table, state))
        return tuple(told)

    def states_behind(self, place):
        """The row behind a place; one without a bar has silence ahead."""
        if place not in self.states:
            bar, state = place
            column = silence(len(self.box[0][0][2])) if bar is None else self.box[bar][-1]
            self.states[place] = self.states_from(column, state)
        return self.states[place]

    def behind(self, place):
        """For each bar of the box the place behind it, or None."""
        return with_bars(self.states_behind(place))


def with_bars(states):
    """The places of a row of states."""
    return tuple([None if state is None else (bar, state) for bar, state in enumerate(states)])


def end_of(step, table, state):
    """The state behind columns with the table, into which the step leads, or None if one of them is broken."""
    following, broken = step[state]
    behind, many = table[following]
    return None if broken or many > 0 else behind


def goings_of(book, box):
    """The goings of a book with a box of tuples."""
    steps = book.steps
    # The last ones are kept, since one box is mostly asked about again.
    if steps.goings is None or steps.goings.box != box:
        steps.goings = Goings(steps, box)
    return steps.goings


def is_word(thing, box):
    """Whether it is a row of numbers of bars, whatever it is."""
    return is_row(thing) and all([is_whole(number, 0, len(box) - 1) for number in thing])
