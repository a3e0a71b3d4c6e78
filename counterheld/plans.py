"""Rules that are right, one behind another, with what each of them makes: how many columns, and how long."""

from counterheld.fractions import difference, is_less, product, sum_of

# The most folds that a plan keeps, and the most parts that a fold has that is still kept.
MOST_FOLDS = 12
MOST_PARTS = 100000


class Plan:
    """Right rules as tuples, with how many columns each makes, their duration, and the moment where a cut begins."""

    def __init__(self):
        self.rules = []
        self.sizes = []
        self.durations = []
        self.starts = []
        self.voices = None
        self.folds = {}
        # The threads in which the columns were woven to be compared.
        self.threads = None

    def last(self):
        return len(self.rules) - 1

    def kept(self, key):
        """The fold that is kept under the key, or None.

        What has been worked out once of a score need not be worked out for the next question.
        """
        fold = self.folds.get(key)
        # Parts that are asked for once only would fill it more and more.
        return None if fold is None or len(fold.parts) > MOST_PARTS else fold

    def keep(self, key, fold):
        """Keeps the fold under the key, and returns it."""
        if len(self.folds) >= MOST_FOLDS:
            self.folds = {}
        self.folds[key] = fold
        return fold

    def put(self, rule):
        """Puts a right rule behind the others."""
        size, duration, start = self.size_of(rule), self._duration_of(rule), self._start_of(rule)
        if self.voices is None:
            # The first rule is a bar, since no other one could stand there.
            self.voices = len(rule[1][0][2])
        self.rules.append(rule)
        self.sizes.append(size)
        self.durations.append(duration)
        self.starts.append(start)

    def size_of(self, rule):
        """How many columns a right rule would make here."""
        word = rule[0]
        if word == "bar":
            return len(rule[1])
        if word == "then":
            return self.sizes[rule[1]] + self.sizes[rule[2]]
        if word == "times":
            return self.sizes[rule[1]] * rule[2]
        if word == "cut":
            return rule[3] - rule[2]
        return self.sizes[rule[1]]

    def _duration_of(self, rule):
        word = rule[0]
        if word == "bar":
            return total_duration(rule[1])
        if word == "cut":
            return difference(self.moment_ahead(rule[1], rule[3]), self.moment_ahead(rule[1], rule[2]))
        length = self.durations[rule[1]]
        if word == "then":
            return sum_of(length, self.durations[rule[2]])
        if word == "times":
            return product(length, (rule[2], 1))
        return product(length, pace_of(rule))

    def _start_of(self, rule):
        return self.moment_ahead(rule[1], rule[2]) if rule[0] == "cut" else None

    def pieces(self, number, first, stop):
        """The parts (rule, first, stop, how often) that make a part of the columns of a rule that is no bar.

        For raise, turn, pace and voices they make it before the rule changes them.
        """
        rule = self.rules[number]
        if rule[0] == "then":
            return self._then_pieces(rule, first, stop)
        if rule[0] == "times":
            return self._times_pieces(rule[1], first, stop)
        shift = rule[2] if rule[0] == "cut" else 0
        return [(rule[1], first + shift, stop + shift, 1)]

    def _then_pieces(self, rule, first, stop):
        size = self.sizes[rule[1]]
        told = []
        if first < size:
            told.append((rule[1], first, min(stop, size), 1))
        if stop > size:
            told.append((rule[2], max(first - size, 0), stop - size, 1))
        return told

    def _times_pieces(self, i, first, stop):
        size = self.sizes[i]
        head, tail = first // size, stop // size
        if head == tail:
            return [(i, first % size, stop % size, 1)]
        told = []
        if first % size > 0:
            told.append((i, first % size, size, 1))
            head += 1
        if head < tail:
            told.append((i, 0, size, tail - head))
        if stop % size > 0:
            told.append((i, 0, stop % size, 1))
        return told

    def below(self, number):
        """The pairs (rule below, pace at which it comes) of what a rule is made of."""
        rule = self.rules[number]
        if rule[0] == "bar":
            return []
        if rule[0] == "then":
            return [(rule[1], (1, 1)), (rule[2], (1, 1))]
        return [(rule[1], pace_of(rule))]

    def moment_ahead(self, number, ahead):
        """The duration of the first columns of a rule, so many as ahead tells."""
        moment, by = (0, 1), (1, 1)
        while self.rules[number][0] != "bar":
            rule = self.rules[number]
            skipped, number, ahead = self._way_by_number(number, ahead)
            moment = sum_of(moment, product(skipped, by))
            by = product(by, pace_of(rule))
        return sum_of(moment, product(total_duration(self.rules[number][1][:ahead]), by))

    def place_below(self, number, at):
        """The rule, and the number of the column in it, from which a rule that is no bar takes its column at."""
        rule = self.rules[number]
        i = rule[1]
        if rule[0] == "then" and at >= self.sizes[i]:
            return rule[2], at - self.sizes[i]
        if rule[0] == "times":
            return i, at % self.sizes[i]
        if rule[0] == "cut":
            return i, at + rule[2]
        return i, at

    def _way_by_number(self, number, ahead):
        """The duration ahead of the copy or part that is gone into, its rule, and how many columns are ahead in it."""
        rule = self.rules[number]
        below, rest = self.place_below(number, ahead)
        skipped = (0, 1)
        if rule[0] == "then" and ahead >= self.sizes[rule[1]]:
            skipped = self.durations[rule[1]]
        if rule[0] == "times":
            skipped = product(self.durations[rule[1]], (ahead // self.sizes[rule[1]], 1))
        if rule[0] == "cut":
            skipped = product(self.starts[number], (-1, 1))
        return skipped, below, rest

    def column_at(self, number, moment):
        """The number of the column of a rule in which a moment, from 0 to below its duration, lies."""
        ahead = 0
        while self.rules[number][0] != "bar":
            skipped, number, moment = self._way_by_moment(number, moment)
            ahead += skipped
        for duration, _, _ in self.rules[number][1]:
            if is_less(moment, duration):
                break
            moment = difference(moment, duration)
            ahead += 1
        return ahead

    def _way_by_moment(self, number, moment):
        """How many columns are ahead of the copy or part that is gone into, its rule, and the moment in it."""
        rule = self.rules[number]
        i = rule[1]
        length = self.durations[i]
        if rule[0] == "then" and not is_less(moment, length):
            return self.sizes[i], rule[2], difference(moment, length)
        if rule[0] == "times":
            copies = (moment[0] * length[1]) // (moment[1] * length[0])
            return copies * self.sizes[i], i, difference(moment, product(length, (copies, 1)))
        if rule[0] == "cut":
            return -rule[2], i, sum_of(moment, self.starts[number])
        n, d = pace_of(rule)
        return 0, i, product(moment, (d, n))


def pace_of(rule):
    """The fraction by which a rule multiplies the durations of what it is made of."""
    return rule[2] if rule[0] == "pace" else (1, 1)


def total_duration(columns):
    told = (0, 1)
    for duration, _, _ in columns:
        told = sum_of(told, duration)
    return told
