"""Machines over the letters 0 to k - 1: the least one that is the same, the first word on which two differ,
the words that test one.

A machine is handed round as two lists: rows, k numbers for each state, and takes, one for each.
"""

NO_WORD = -1
TOO_MANY = -1
OUT_OF_RANGE = -2
NO_MACHINE = -3

MOST_LETTERS = 16
MOST_STATES = 64

MOST_TEST_LETTERS = 4
MOST_TEST_STATES = 12
MOST_MORE = 2
MOST_BYTES = 2097152


def least(k, n, rows, takes):
    """Give the least machine that is the same: how many states, then its rows, then its takes."""
    if not (1 <= k <= MOST_LETTERS and 1 <= n <= MOST_STATES):
        return [OUT_OF_RANGE]
    if not is_machine(n, rows, takes):
        return [NO_MACHINE]
    order = reached_states(k, rows)
    groups = alike_states(k, rows, takes, order)
    return joined_machine(k, rows, takes, order, groups)


def apart(k, n, m, rows, takes, rows2, takes2):
    """Give the first word that just one of two machines takes: how many letters, then these."""
    if not (1 <= k <= MOST_LETTERS and 1 <= n <= MOST_STATES and 1 <= m <= MOST_STATES):
        return [OUT_OF_RANGE]
    if not (is_machine(n, rows, takes) and is_machine(m, rows2, takes2)):
        return [NO_MACHINE]
    word = first_word_apart(k, rows, takes, rows2, takes2, (0, 0))
    if word is None:
        return [NO_WORD]
    return [len(word)] + word


def test(k, n, more, most, rows, takes):
    """Give the words that test a least machine: how many numbers follow, then of each word its length and letters."""
    if not (1 <= k <= MOST_TEST_LETTERS and 1 <= n <= MOST_TEST_STATES):
        return [OUT_OF_RANGE]
    if not (0 <= more <= MOST_MORE and 0 <= most <= MOST_BYTES):
        return [OUT_OF_RANGE]
    if not (is_machine(n, rows, takes) and is_least(k, n, rows, takes)):
        return [NO_MACHINE]
    told = told_words(words_of_three_parts(k, n, more, rows, takes))
    if len(told) > most:
        return [TOO_MANY]
    return [len(told)] + told


def is_machine(n, rows, takes):
    """Tell whether all in rows are states and all in takes are 0 or 1."""
    for state in rows:
        if not 0 <= state < n:
            return False
    for taken in takes:
        if taken not in (0, 1):
            return False
    return True


def is_least(k, n, rows, takes):
    """Tell whether a machine is least: only then is it the very one that least gives."""
    return least(k, n, rows, takes) == [n] + rows + takes


def row_of(k, rows, state):
    """Give the states that the letters lead to from a state, letter by letter."""
    return rows[k * state:k * state + k]


def reached_states(k, rows):
    """List the states that some word leads to, in the order of the first words that do."""
    order = [0]
    seen = {0: True}
    done = 0
    # A state's first word is the first word of an earlier state and one letter: so going through
    # the list in its own order, letter by letter, finds the states in the order of their words.
    while done < len(order):
        for state in row_of(k, rows, order[done]):
            if state not in seen:
                seen[state] = True
                order.append(state)
        done = done + 1
    return order


def alike_states(k, rows, takes, order):
    """Number the states of order, those alike that take the same words from there on."""
    groups = number_marks(order, takes)
    finer = split_groups(k, rows, order, groups)
    # Groups are numbered as they first come in order, so an unchanged split has the very same numbers.
    while finer != groups:
        groups = finer
        finer = split_groups(k, rows, order, groups)
    return groups


def split_groups(k, rows, order, groups):
    """Part the states of a group that some letter leads to different groups."""
    marks = {}
    for state in order:
        ahead = [groups[there] for there in row_of(k, rows, state)]
        marks[state] = (groups[state], tuple(ahead))
    return number_marks(order, marks)


def number_marks(order, marks):
    """Number the states by their marks, from 0 on, as the marks first come in order."""
    numbers = {}
    groups = {}
    for state in order:
        groups[state] = numbers.setdefault(marks[state], len(numbers))
    return groups


def joined_machine(k, rows, takes, order, groups):
    """Tell the machine whose states are the groups: how many there are, its rows, its takes."""
    new_rows = []
    new_takes = []
    for state in order:
        # The groups come in the order of their numbers: this one's number tells if it is new.
        if groups[state] == len(new_takes):
            new_rows.extend([groups[there] for there in row_of(k, rows, state)])
            new_takes.append(takes[state])
    return [len(new_takes)] + new_rows + new_takes


def first_word_apart(k, rows, takes, rows2, takes2, start):
    """Give the first word that just one of two machines takes, each from its state of the pair start on.

    It is None if there is none.
    """
    pairs = [start]
    seen = {start: True}
    # For each pair of states: the place of the pair that it was found from, and by which letter.
    earlier = [0]
    letters = [0]
    done = 0
    # Pairs are found in the order of the first words that lead to them, as states are in
    # reached_states: so the first pair that differs is the one that the first word leads to.
    while done < len(pairs):
        pair = pairs[done]
        if takes[pair[0]] != takes2[pair[1]]:
            return word_back(done, earlier, letters)
        ahead = list(zip(row_of(k, rows, pair[0]), row_of(k, rows2, pair[1])))
        for letter in range(k):
            if ahead[letter] not in seen:
                seen[ahead[letter]] = True
                pairs.append(ahead[letter])
                earlier.append(done)
                letters.append(letter)
        done = done + 1
    return None


def word_back(place, earlier, letters):
    """Give the word that led to a place, gathered from its last letter to its first."""
    word = []
    here = place
    while here > 0:
        word.append(letters[here])
        here = earlier[here]
    word.reverse()
    return word


def words_of_three_parts(k, n, more, rows, takes):
    """List the words of three parts in their order, each once."""
    heads = head_words(k, first_words(k, n, rows))
    middles = words_up_to(k, more)
    tails = tail_words(k, n, rows, takes)
    # Several threes may make one word: as a key it stands once.
    words = {}
    for head in heads:
        for middle in middles:
            for tail in tails:
                words[head + middle + tail] = True
    return sorted(words, key=lambda word: (len(word), word))


def first_words(k, n, rows):
    """Give for each state of a least machine the first word that leads there."""
    words = [()]
    for state in range(n):
        for letter, there in enumerate(row_of(k, rows, state)):
            # States are numbered in the order of their first words: the next one found is the next number.
            if there == len(words):
                words.append(words[state] + (letter,))
    return words


def head_words(k, firsts):
    """List the first words of the states, and each of them with one letter more."""
    words = list(firsts)
    for word in firsts:
        words.extend([word + (letter,) for letter in range(k)])
    return words


def words_up_to(k, longest):
    """List all words of up to longest letters, in their order."""
    words = [()]
    done = 0
    while len(words[done]) < longest:
        words.extend([words[done] + (letter,) for letter in range(k)])
        done = done + 1
    return words


def tail_words(k, n, rows, takes):
    """List the word of no letters, and for any two states the first word that just one takes from there on."""
    words = {(): True}
    for state in range(n):
        for other in range(state):
            word = first_word_apart(k, rows, takes, rows, takes, (state, other))
            words[tuple(word)] = True
    return list(words)


def told_words(words):
    """Tell words one behind the other, each as how many letters it has, and they."""
    told = []
    for word in words:
        told.append(len(word))
        told.extend(word)
    return told
