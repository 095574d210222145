"""Machines and other things to hand in, made the same way each time."""

# The ends of what may be handed in as a number.
SMALLEST = -2147483648
LARGEST = 2147483647


class Numbers:
    """A row of numbers that looks thrown, but is the same for the same seed on every Python."""

    def __init__(self, seed):
        self.now = seed

    def below(self, bound):
        self.now = (self.now * 6364136223846793005 + 1442695040888963407) % 2 ** 64
        return (self.now >> 33) % bound

    def shuffled(self, things):
        rest = list(things)
        out = []
        while rest:
            out.append(rest.pop(self.below(len(rest))))
        return out


def thrown_machine(k, n, seed, rarely=2):
    """Rows and takes; about one state in rarely has 1."""
    numbers = Numbers(seed)
    rows = [numbers.below(n) for number in range(k * n)]
    takes = [1 if numbers.below(rarely) == 0 else 0 for state in range(n)]
    return rows, takes


def renumbered(k, rows, takes, names):
    """The same machine with each state called names[state]."""
    new_rows = [0] * len(rows)
    new_takes = [0] * len(takes)
    for state, name in enumerate(names):
        new_takes[name] = takes[state]
        for letter in range(k):
            new_rows[k * name + letter] = names[rows[k * state + letter]]
    return new_rows, new_takes


def shuffled_machine(k, rows, takes, seed):
    """The same machine with its states in another order, the first one aside."""
    names = [0] + Numbers(seed).shuffled(range(1, len(takes)))
    return renumbered(k, rows, takes, names)


def blown_up(k, rows, takes, n, seed):
    """A machine of n states that is the same: each state stands several times in it, and each
    letter leads to some one of those that stand for where it led."""
    numbers = Numbers(seed)
    stands_for = list(range(len(takes)))
    while len(stands_for) < n:
        stands_for.append(numbers.below(len(takes)))
    places = {}
    for place, state in enumerate(stands_for):
        places.setdefault(state, []).append(place)
    new_rows = []
    for state in stands_for:
        for there in rows[k * state:k * state + k]:
            new_rows.append(places[there][numbers.below(len(places[there]))])
    return new_rows, [takes[state] for state in stands_for]


def chain(k, n, onward):
    """The letter onward leads to the next state, the last stays; other letters stay. The last takes."""
    rows = []
    for state in range(n):
        row = [state] * k
        row[onward] = min(state + 1, n - 1)
        rows.extend(row)
    return rows, [0] * (n - 1) + [1]


def ring(n, takes):
    """One letter, that leads round through all states."""
    return [(state + 1) % n for state in range(n)], list(takes)


def tailed_ring(tail, takes):
    """One letter, that leads through tail states into a ring of all the others."""
    return list(range(1, len(takes))) + [tail], list(takes)


def with_idle_letters(k, rows, onward):
    """The rows of one letter for k of them: onward leads where that one did, all others stay."""
    new_rows = []
    for state, there in enumerate(rows):
        row = [state] * k
        row[onward] = there
        new_rows.extend(row)
    return new_rows


def listing(k, words, others=0):
    """A machine that takes just these words, a set of tuples: a state for each of their beginnings,
    then one for all that's lost. With others 1 it takes all words but these."""
    beginnings = sorted({word[:length] for word in words for length in range(len(word) + 1)} | {()})
    places = {beginning: place for place, beginning in enumerate(beginnings)}
    lost = len(beginnings)
    rows = [
        places.get(beginning + (letter,), lost)
        for beginning in beginnings
        for letter in range(k)
    ]
    takes = [1 - others if beginning in words else others for beginning in beginnings]
    return rows + [lost] * k, takes + [others]


def shared_beginning(size, size2):
    """The first size + size2 - 2 numbers, each 0 or 1 and not all alike, of two rows that repeat
    after size and after size2, which share no factor. (Longer they would have to be all alike.)"""
    length = size + size2 - 2
    zeros = {0}
    edge = [0]
    while edge:
        place = edge.pop()
        for other in (place - size, place + size, place - size2, place + size2):
            if 0 <= other < length and other not in zeros:
                zeros.add(other)
                edge.append(other)
    return [0 if place in zeros else 1 for place in range(length)]


class Watched(list):
    """A list that lets nobody change it, not for a while either."""

    def refuse(self, *handed):
        raise AssertionError("a list that was handed in is changed")

    append = clear = extend = insert = pop = remove = reverse = sort = refuse
    __setitem__ = __delitem__ = __iadd__ = __imul__ = refuse


def ordered_rows(k, n):
    """All rows of n states by which words lead to each state, numbered in the order of the first ones."""
    def finished(rows, found):
        if len(rows) == k * n:
            if found == n:
                yield list(rows)
            return
        # The row of a state that no row ahead of it led to has no place here.
        if len(rows) // k < found:
            for state in range(min(found + 1, n)):
                yield from finished(rows + [state], max(found, state + 1))

    return list(finished([], 1))
