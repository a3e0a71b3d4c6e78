"""The steps of a book from column to column."""

from counterheld.probes import is_held

# The most moves of which a book keeps what they do.
MOST_MOVES = 20000


def silence(voices):
    """The column that stands ahead of the first one."""
    return ((0, 1), 0, (None,) * voices)


class Steps:
    """What a book does at moves: for each of its states which one follows, and whether the column is broken.

    Columns and tests are tuples here.
    """

    def __init__(self, tests, states):
        self.tests = tests
        self.choices = [[(bits_of(row[0]), bits_of(row[1]), row[2], row[3]) for row in state] for state in states]
        self.rows = {}
        self.moves = {}
        self.goings = None
        # What is known of the gaps that were last asked about.
        self.fillings = {}

    def held(self, one, other):
        """The numbers of the tests that hold of a move, ascending."""
        return [number for number, test in enumerate(self.tests) if is_held(test, one, other)]

    def choice(self, state, bits):
        """The number of the first tuple of a state that applies where these tests hold, or None."""
        for number, (wanted, unwanted, _, _) in enumerate(self.choices[state]):
            if wanted & bits == wanted and unwanted & bits == 0:
                return number
        return None

    def step(self, one, other):
        """For each state the pair (following state, broken) of the move from the column one to the column other."""
        key = (one, other)
        if key not in self.moves:
            if len(self.moves) >= MOST_MOVES:
                self.moves = {}
            self.moves[key] = self._row(bits_of(self.held(one, other)))
        return self.moves[key]

    def _row(self, bits):
        if bits not in self.rows:
            told = []
            for state, choices in enumerate(self.choices):
                number = self.choice(state, bits)
                told.append((state, False) if number is None else (choices[number][2], choices[number][3]))
            self.rows[bits] = tuple(told)
        return self.rows[bits]

    def through(self, table, step):
        """The table of columns and one more behind them, to which the step leads."""
        told = []
        for state, many in table:
            following, broken = step[state]
            told.append((following, many + 1 if broken else many))
        return tuple(told)

    def no_move(self):
        """The table of one column."""
        return tuple([(state, 0) for state in range(len(self.choices))])

    def table(self, columns):
        """For each state behind the first column the pair (state behind all of them, how many others are broken)."""
        told = self.no_move()
        for number in range(1, len(columns)):
            told = self.through(told, self.step(columns[number - 1], columns[number]))
        return told


def table_behind(table, other):
    """The table of columns and of others behind them, other being theirs with the move into the first of them."""
    return tuple([(other[state][0], many + other[state][1]) for state, many in table])


def bits_of(numbers):
    """The numbers, each of which may come more than once, as the bits of one number."""
    told = 0
    for number in numbers:
        told = told | 1 << number
    return told
