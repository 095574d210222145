"""The document's own words on machines, taken word by word, to hold answers against.

Nothing here shares the program's way of working: words are written out one by one in their
order, and each is run from its first letter to its last.
"""

import itertools


def words_up_to(k, longest):
    """All words of up to longest letters, in their order."""
    return [
        word
        for length in range(longest + 1)
        for word in itertools.product(range(k), repeat=length)
    ]


def led_to(k, rows, word, start=0):
    state = start
    for letter in word:
        state = rows[k * state + letter]
    return state


def taken_words(k, rows, takes, words, start=0):
    """For each of the words 1 or 0: is it taken from start on."""
    return tuple(takes[led_to(k, rows, word, start)] for word in words)


def least_by_words(k, rows, takes, reach, tell):
    """The answer of least, from all words of up to reach letters that lead to states, and all
    words of up to tell letters that tell these apart.

    With n states, reach and tell of n - 1 are enough: a shortest word that leads to a state goes
    through no state twice, and states that no word of up to n - 1 letters tells apart, none does.
    """
    tails = words_up_to(k, tell)
    known = {}

    def from_there_on(state):
        if state not in known:
            known[state] = taken_words(k, rows, takes, tails, state)
        return known[state]

    numbers = {}
    firsts = []
    for word in words_up_to(k, reach):
        what = from_there_on(led_to(k, rows, word))
        if what not in numbers:
            numbers[what] = len(firsts)
            firsts.append(word)
    new_rows = [
        numbers[from_there_on(led_to(k, rows, word + (letter,)))]
        for word in firsts
        for letter in range(k)
    ]
    new_takes = [takes[led_to(k, rows, word)] for word in firsts]
    return [len(firsts)] + new_rows + new_takes


def told_machine(k, answer):
    """Rows and takes out of an answer of least."""
    n = answer[0]
    return answer[1:1 + k * n], answer[1 + k * n:]


def apart_by_words(k, rows, takes, rows2, takes2, longest):
    """The answer of apart, from all words of up to longest letters, each run through both.

    With n and m states, n + m - 2 letters are enough: put the states of both in one row, then
    words of each length more part some group of these, or no longer word does.
    """
    for length in range(longest + 1):
        for word in itertools.product(range(k), repeat=length):
            if takes[led_to(k, rows, word)] != takes2[led_to(k, rows2, word)]:
                return [length, *word]
    return [-1]


def words_in_order(k):
    """All words without an end, in their order."""
    for length in itertools.count():
        yield from itertools.product(range(k), repeat=length)


def first_words_by_words(k, n, rows):
    """For each state the first word that leads there, from words run until each state has come."""
    firsts = {}
    for word in words_in_order(k):
        firsts.setdefault(led_to(k, rows, word), word)
        if len(firsts) == n:
            return [firsts[state] for state in range(n)]


def third_parts_by_words(k, rows, takes):
    """No letter at all, and for each two states the first word that just one takes from there on."""
    parts = {()}
    for one, other in itertools.combinations(range(len(takes)), 2):
        for word in words_in_order(k):
            if takes[led_to(k, rows, word, one)] != takes[led_to(k, rows, word, other)]:
                parts.add(word)
                break
    return parts


def is_first_part(word, firsts):
    return word in firsts or len(word) > 0 and word[:-1] in firsts


def is_of_three_parts(word, firsts, more, thirds):
    """Does the word split into three parts as told, at any two places."""
    return any(
        is_first_part(word[:place], firsts) and word[there:] in thirds
        for place in range(len(word) + 1)
        for there in range(place, min(place + more, len(word)) + 1)
    )


def answer_by_words(k, more, rows, takes):
    """The answer of test with enough for most: every word that may be of three parts is asked if it is."""
    firsts = first_words_by_words(k, len(takes), rows)
    thirds = third_parts_by_words(k, rows, takes)
    longest = max(map(len, firsts)) + 1 + more + max(map(len, thirds))
    words = [word for word in words_up_to(k, longest) if is_of_three_parts(word, firsts, more, thirds)]
    return told_list(words)


def told_list(words):
    """How many numbers follow, then of each word how many letters it has, and they."""
    told = [number for word in words for number in (len(word), *word)]
    return [len(told)] + told


def listed_words(answer):
    """The words out of an answer of test; it has to be told to its last number, and no further."""
    words = []
    rest = answer[1:]
    place = 0
    while place < len(rest):
        words.append(tuple(rest[place + 1:place + 1 + rest[place]]))
        place += 1 + rest[place]
    if answer[0] != len(rest) or place != len(rest):
        raise AssertionError(f"{answer[0]} numbers are told of, {len(rest)} are there, {place} are words")
    return words


def comes_before(word, other):
    """Is the word ahead of the other: shorter, or smaller where the two first differ."""
    if len(word) != len(other):
        return len(word) < len(other)
    for letter, against in zip(word, other):
        if letter != against:
            return letter < against
    return False
