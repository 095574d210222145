"""The document's own words on machines, taken word by word, to hold answers against.

Nothing here shares the program's way of working: words are written out one by one in their
order, and each is run from its first letter to its last.
"""

import itertools


def words_up_to(k, longest):
    """All words of up to longest letters, in their order."""
    return [
        word
        for length in range(longest + 1)
        for word in itertools.product(range(k), repeat=length)
    ]


def led_to(k, rows, word, start=0):
    state = start
    for letter in word:
        state = rows[k * state + letter]
    return state


def taken_words(k, rows, takes, words, start=0):
    """For each of the words 1 or 0: is it taken from start on."""
    return tuple(takes[led_to(k, rows, word, start)] for word in words)


def least_by_words(k, rows, takes, reach, tell):
    """The answer of least, from all words of up to reach letters that lead to states, and all
    words of up to tell letters that tell these apart.

    With n states, reach and tell of n - 1 are enough: a shortest word that leads to a state goes
    through no state twice, and states that no word of up to n - 1 letters tells apart, none does.
    """
    tails = words_up_to(k, tell)
    known = {}

    def from_there_on(state):
        if state not in known:
            known[state] = taken_words(k, rows, takes, tails, state)
        return known[state]

    numbers = {}
    firsts = []
    for word in words_up_to(k, reach):
        what = from_there_on(led_to(k, rows, word))
        if what not in numbers:
            numbers[what] = len(firsts)
            firsts.append(word)
    new_rows = [
        numbers[from_there_on(led_to(k, rows, word + (letter,)))]
        for word in firsts
        for letter in range(k)
    ]
    new_takes = [takes[led_to(k, rows, word)] for word in firsts]
    return [len(firsts)] + new_rows + new_takes


def told_machine(k, answer):
    """Rows and takes out of an answer of least."""
    n = answer[0]
    return answer[1:1 + k * n], answer[1 + k * n:]


def apart_by_words(k, rows, takes, rows2, takes2, longest):
    """The answer of apart, from all words of up to longest letters, each run through both.

    With n and m states, n + m - 2 letters are enough: put the states of both in one row, then
    words of each length more part some group of these, or no longer word does.
    """
    for length in range(longest + 1):
        for word in itertools.product(range(k), repeat=length):
            if takes[led_to(k, rows, word)] != takes2[led_to(k, rows2, word)]:
                return [length, *word]
    return [-1]
