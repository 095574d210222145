"""Point 3, test, with the refusals ahead of it."""

import contextlib
import io
import itertools
import unittest

# The function test itself is called through its file, so that no runner takes it for a test here.
from leastone import machines
from leastone.machines import apart, least
from tests.by_words import (
    answer_by_words, apart_by_words, comes_before, first_words_by_words, is_of_three_parts, least_by_words,
    led_to, listed_words, third_parts_by_words, told_list, told_machine, words_up_to,
)
from tests.making import (
    LARGEST, SMALLEST, Numbers, Watched, chain, listing, ordered_rows, renumbered, ring, shuffled_machine,
    tailed_ring, thrown_machine,
)

ENOUGH = 2097152


def thrown_least(k, n, seed, rarely=2):
    """Rows and takes of a least machine of n states."""
    for further in itertools.count(seed, 1000):
        rows, takes = thrown_machine(k, n, further, rarely)
        # By one letter hardly ever a thrown row leads to each state: here it leads through all of them.
        answer = least(k, n, *(tailed_ring(further % n, takes) if k == 1 else (rows, takes)))
        if answer[0] == n:
            return told_machine(k, answer)


class TestCase(unittest.TestCase):
    def assert_test(self, k, more, rows, takes, answer, most=ENOUGH):
        found = machines.test(k, len(takes), more, most, rows, takes)
        # Not assertEqual, which is slow to tell how long lists differ.
        if found != answer:
            self.fail(f"test({k}, {len(takes)}, {more}, {most}, {rows}, {takes}) is {found[:99]}, not {answer[:99]}")

    def assert_words(self, k, more, rows, takes, words):
        """The answer has just these words, told in this order."""
        self.assert_test(k, more, rows, takes, told_list(words))


class OrdinaryMachines(TestCase):
    def test_odd_ones(self):
        # First words: none, 1. Third parts: none.
        self.assert_test(2, 0, [0, 1, 1, 0], [0, 1], [11, 0, 1, 0, 1, 1, 2, 1, 0, 2, 1, 1])
        told = [
            33, 0, 1, 0, 1, 1, 2, 0, 0, 2, 0, 1, 2, 1, 0, 2, 1, 1,
            3, 1, 0, 0, 3, 1, 0, 1, 3, 1, 1, 0, 3, 1, 1, 1,
        ]
        self.assert_test(2, 1, [0, 1, 1, 0], [0, 1], told)

    def test_words_that_end_in_0_1(self):
        # First words: none, 0, 0 1. Third parts: none, 1. Fourteen threes make eleven words.
        told = [
            36, 0, 1, 0, 1, 1, 2, 0, 0, 2, 0, 1, 2, 1, 1, 3, 0, 0, 1, 3, 0, 1, 0, 3, 0, 1, 1,
            4, 0, 1, 0, 1, 4, 0, 1, 1, 1,
        ]
        self.assert_test(2, 0, [1, 0, 1, 2, 1, 0], [0, 0, 1], told)

    def test_numbers_that_three_divides(self):
        # Numbers in twos. First words: none, 1, 1 0. Third parts: none, 1 (it leads from 1 to 0, from 2 to 2).
        words = [
            (), (0,), (1,), (0, 1), (1, 0), (1, 1), (1, 0, 0), (1, 0, 1), (1, 1, 1), (1, 0, 0, 1), (1, 0, 1, 1),
        ]
        self.assert_words(2, 0, [0, 1, 2, 0, 1, 2], [1, 0, 0], words)

    def test_a_chain(self):
        # First words: none, 0, 0 0. Third parts: none, 0.
        self.assert_test(1, 0, [1, 2, 2], [0, 0, 1], [15, 0, 1, 0, 2, 0, 0, 3, 0, 0, 0, 4, 0, 0, 0, 0])
        for more in (0, 1, 2):
            self.assert_words(1, more, [1, 2, 2], [0, 0, 1], words_up_to(1, 4 + more))

    def test_order_is_that_of_the_whole_words(self):
        # First words: none, 1, 1 0. Third parts: none, 0. First part by first part, 0 0 would come ahead of 1.
        rows, takes = [0, 1, 2, 1, 2, 2], [0, 0, 1]
        words = [
            (), (0,), (1,), (0, 0), (1, 0), (1, 1), (1, 0, 0), (1, 0, 1), (1, 1, 0),
            (1, 0, 0, 0), (1, 0, 1, 0),
        ]
        self.assert_words(2, 0, rows, takes, words)


class OneState(TestCase):
    def test_told_whole(self):
        for taken in (0, 1):
            self.assert_test(1, 0, [0], [taken], [3, 0, 1, 0])
            self.assert_test(1, 1, [0], [taken], [6, 0, 1, 0, 2, 0, 0])
            self.assert_test(1, 2, [0], [taken], [10, 0, 1, 0, 2, 0, 0, 3, 0, 0, 0])
            self.assert_test(2, 0, [0, 0], [taken], [5, 0, 1, 0, 1, 1])
            told = [17, 0, 1, 0, 1, 1, 2, 0, 0, 2, 0, 1, 2, 1, 0, 2, 1, 1]
            self.assert_test(2, 1, [0, 0], [taken], told)
            self.assert_test(4, 0, [0] * 4, [taken], [9, 0, 1, 0, 1, 1, 1, 2, 1, 3])

    def test_all_words_of_up_to_one_letter_and_more(self):
        for k in (1, 2, 3, 4):
            for more in (0, 1, 2):
                for taken in (0, 1):
                    self.assert_words(k, more, [0] * k, [taken], words_up_to(k, 1 + more))


class TwoStates(TestCase):
    def test_each_letter_leads_away_first(self):
        # All words of up to 1 + more letters, and of one letter more those that begin with this one.
        for k in (1, 2, 3, 4):
            for letter in range(k):
                for later in itertools.product((0, 1), repeat=k - 1 - letter):
                    row = [0] * letter + [1] + list(later)
                    for more in (0, 1, 2):
                        words = [
                            word for word in words_up_to(k, 2 + more)
                            if len(word) < 2 + more or word[0] == letter
                        ]
                        for takes in ([0, 1], [1, 0]):
                            for back in ([0] * k, [1] * k, row):
                                self.assert_words(k, more, row + back, takes, words)

    def test_told_whole(self):
        self.assert_test(1, 0, [1, 0], [0, 1], [6, 0, 1, 0, 2, 0, 0])
        self.assert_test(1, 1, [1, 0], [0, 1], [10, 0, 1, 0, 2, 0, 0, 3, 0, 0, 0])
        self.assert_test(1, 2, [1, 1], [1, 0], [15, 0, 1, 0, 2, 0, 0, 3, 0, 0, 0, 4, 0, 0, 0, 0])
        told = [16, 0, 1, 0, 1, 1, 1, 2, 2, 2, 0, 2, 2, 1, 2, 2, 2]
        self.assert_test(3, 0, [0, 0, 1, 1, 1, 1], [1, 0], told)
        told = [21, 0, 1, 0, 1, 1, 1, 2, 1, 3, 2, 0, 0, 2, 0, 1, 2, 0, 2, 2, 0, 3]
        self.assert_test(4, 0, [1, 0, 0, 0, 0, 0, 0, 1], [0, 1], told)


class TheThreeParts(TestCase):
    def assert_third_parts(self, k, rows, takes, thirds):
        """These, told by hand, are the third parts; and of the words that begin with the first word that
        leads to the last state and letter 0, the answer has those that go on so, and no other."""
        n = len(takes)
        self.assertEqual(third_parts_by_words(k, rows, takes), thirds)
        begin = first_words_by_words(k, n, rows)[-1] + (0,)
        words = listed_words(machines.test(k, n, 0, ENOUGH, rows, takes))
        self.assertEqual({word[len(begin):] for word in words if word[:len(begin)] == begin}, thirds)
        self.assert_test(k, 0, rows, takes, answer_by_words(k, 0, rows, takes))

    def test_third_part_is_the_shortest_word_that_tells_two_apart(self):
        # Both 1 and 0 0 tell 1 from 2: 0 0 is no third part.
        self.assert_third_parts(2, [1, 2, 3, 4, 1, 3, 4, 3, 4, 4], [0, 0, 0, 0, 1], {(), (0,), (1,), (1, 0)})

    def test_third_part_is_of_equally_long_words_the_first(self):
        # Both 0 and 1 tell 1 from 2, and both 1 0 and 1 1 tell 0 from 1: 1 and 1 1 are no third parts.
        self.assert_third_parts(2, [1, 2, 0, 0, 3, 3, 3, 3], [0, 0, 0, 1], {(), (0,), (1, 0)})

    def test_third_parts_of_a_lock_are_all_its_endings(self):
        rows, takes = told_machine(2, least(2, 6, *listing(2, {(0, 1, 1, 0)})))
        self.assert_third_parts(2, rows, takes, {(), (0,), (1, 0), (1, 1, 0), (0, 1, 1, 0)})

    def test_second_part_is_any_word(self):
        for k in (1, 2, 3, 4):
            for more in (0, 1, 2):
                rows, takes = thrown_least(k, 5, k)
                words = dict.fromkeys(listed_words(machines.test(k, 5, more, ENOUGH, rows, takes)))
                for first in first_words_by_words(k, 5, rows):
                    for second in words_up_to(k, 1 + more):
                        self.assertIn(first + second, words)

    def test_a_word_that_comes_about_in_many_ways_stands_once(self):
        # Of one letter there is but one word of each length, and each comes about in many ways.
        for n in range(1, 13):
            rows, takes = chain(1, n, 0)
            for more in (0, 1, 2):
                self.assert_words(1, more, rows, takes, words_up_to(1, n + more + max(0, n - 2)))


class Edges(TestCase):
    def assert_most(self, k, more, rows, takes):
        """The answer with most just what is needed, with more than that, and with one less."""
        answer = machines.test(k, len(takes), more, ENOUGH, rows, takes)
        self.assertEqual(answer[0], len(answer) - 1)
        self.assertGreater(answer[0], 0)
        for most in (answer[0], answer[0] + 1, len(answer) + 1, ENOUGH - 1, ENOUGH):
            self.assert_test(k, more, rows, takes, answer, most)
        for most in (answer[0] - 1, answer[0] - 2, answer[0] // 2, 1, 0):
            self.assert_test(k, more, rows, takes, [-1], max(most, 0))

    def test_most_just_what_is_needed_and_one_less(self):
        self.assert_test(1, 0, [0], [1], [3, 0, 1, 0], 3)
        self.assert_test(1, 0, [0], [1], [-1], 2)
        self.assert_test(2, 0, [0, 1, 1, 0], [0, 1], [11, 0, 1, 0, 1, 1, 2, 1, 0, 2, 1, 1], 11)
        self.assert_test(2, 0, [0, 1, 1, 0], [0, 1], [-1], 10)
        for k in (1, 2, 3, 4):
            for n in (1, 2, 7, 12):
                for more in (0, 1, 2):
                    self.assert_most(k, more, *thrown_least(k, n, n, 3))
                    self.assert_most(k, more, *chain(k, n, k - 1))

    def test_most_0(self):
        # The word of no letters is always there, and takes a number itself.
        for k in (1, 4):
            for n in (1, 12):
                for more in (0, 1, 2):
                    self.assert_test(k, more, *chain(k, n, 0), [-1], 0)

    def test_largest_machines_with_a_small_most(self):
        for seed in range(5):
            rows, takes = thrown_least(4, 12, seed)
            for most in (0, 1, 1000, 10000):
                self.assert_test(4, 2, rows, takes, [-1], most)

    def test_ends_of_the_ranges_are_no_refusal(self):
        for k in (1, 4):
            for n in (1, 12):
                for more in (0, 2):
                    answer = machines.test(k, n, more, ENOUGH, *chain(k, n, k - 1))
                    self.assertGreater(answer[0], 0)
                    self.assertEqual(len(answer), 1 + answer[0])

    def test_last_numbers_of_the_lists_count(self):
        # If the last letter led from the last state to itself, it would take the same words as the one ahead.
        rows, takes = [1, 2, 1, 1, 2, 0], [0, 1, 1]
        self.assert_test(2, 0, rows, takes, answer_by_words(2, 0, rows, takes))
        self.assert_test(2, 0, rows[:5] + [2], takes, [-3])
        self.assert_test(2, 0, *chain(2, 12, 1), [-1], 0)
        self.assert_test(2, 0, chain(2, 12, 1)[0], [0] * 12, [-3], 0)


class AgainstTheDocument(TestCase):
    def test_every_small_machine(self):
        for k, n in ((1, 1), (1, 2), (1, 3), (1, 4), (2, 1), (2, 2), (2, 3), (3, 1), (3, 2), (4, 1)):
            for rows in itertools.product(range(n), repeat=k * n):
                for takes in itertools.product((0, 1), repeat=n):
                    machine = (list(rows), list(takes))
                    is_least = least_by_words(k, rows, takes, n - 1, n - 1) == [n, *rows, *takes]
                    for more in (0, 1, 2) if n < 3 else (0,):
                        answer = answer_by_words(k, more, *machine) if is_least else [-3]
                        self.assert_test(k, more, *machine, answer)
                    self.assert_test(k, 0, *machine, [-1] if is_least else [-3], 0)

    def test_small_thrown_machines(self):
        for k, n, more in (
            (1, 12, 2), (1, 9, 0), (2, 4, 2), (2, 5, 1), (2, 6, 0), (3, 3, 1), (3, 4, 0), (4, 2, 2), (4, 3, 0),
        ):
            for seed in range(12):
                machine = thrown_least(k, n, seed, 2 + seed % 3)
                self.assert_test(k, more, *machine, answer_by_words(k, more, *machine))

    def assert_of_three_parts(self, k, more, rows, takes, firsts, thirds):
        """Each word of the answer splits into three such parts, every three such parts are in it, and
        each word comes before the next."""
        answer = machines.test(k, len(takes), more, ENOUGH, rows, takes)
        self.assertLessEqual(len(answer), 1000000)
        words = listed_words(answer)
        for word, following in zip(words, words[1:]):
            self.assertTrue(comes_before(word, following), (word, following))
        for word in words:
            self.assertTrue(all(0 <= letter < k for letter in word), word)
            self.assertTrue(is_of_three_parts(word, firsts, more, thirds), word)
        there = dict.fromkeys(words)
        for first in firsts:
            for letter in [()] + [(letter,) for letter in range(k)]:
                for second in words_up_to(k, more):
                    for third in thirds:
                        self.assertIn(first + letter + second + third, there)
        return len(answer)

    def test_thrown_machines_of_up_to_12_states(self):
        for k, n in ((2, 8), (2, 12), (3, 7), (3, 12), (4, 6), (4, 11), (4, 12)):
            for seed in range(3):
                rows, takes = thrown_least(k, n, seed, 2 + 3 * seed)
                firsts = first_words_by_words(k, n, rows)
                self.assertEqual(sorted(firsts, key=lambda word: (len(word), word)), firsts)
                thirds = third_parts_by_words(k, rows, takes)
                for more in (0, 1, 2):
                    self.assert_of_three_parts(k, more, rows, takes, firsts, thirds)

    def test_chains(self):
        for k, onward in ((1, 0), (2, 0), (2, 1), (3, 1), (4, 0), (4, 3)):
            for n in (2, 3, 11, 12):
                rows, takes = chain(k, n, onward)
                # Of two states the one that is further on is the first to come to the last.
                firsts = [(onward,) * state for state in range(n)]
                thirds = {(onward,) * (n - 1 - state) for state in range(1, n)}
                for more in (0, 1, 2):
                    self.assert_of_three_parts(k, more, rows, takes, firsts, thirds)

    def test_rings(self):
        for n in (3, 7, 12):
            rows, takes = ring(n, [1] + [0] * (n - 1))
            firsts = [(0,) * state for state in range(n)]
            thirds = {(0,) * length for length in range(n - 1)}
            for more in (0, 1, 2):
                self.assert_of_three_parts(1, more, rows, takes, firsts, thirds)

    def test_locks(self):
        # One word of ten letters alone is taken: all its endings are third parts, as many as can be.
        for k in (2, 3, 4):
            for seed in range(4):
                numbers = Numbers(seed)
                lock = tuple(numbers.below(k) for place in range(10))
                for others in (0, 1):
                    rows, takes = told_machine(k, least(k, 12, *listing(k, {lock}, others)))
                    self.assertEqual(len(takes), 12)
                    lost = (0,) if lock[0] > 0 else (1,)
                    firsts = [lock[:length] for length in range(11)] + [lost]
                    thirds = {lock[length:] for length in range(11)}
                    for more in (0, 1, 2):
                        self.assert_of_three_parts(k, more, rows, takes, firsts, thirds)

    def test_a_large_answer_whole(self):
        rows, takes = told_machine(4, least(4, 12, *listing(4, {(3, 1, 2, 0, 1, 3, 3, 0, 2, 1)})))
        answer = machines.test(4, 12, 2, ENOUGH, rows, takes)
        self.assertGreater(answer[0], 65536)
        self.assert_test(4, 2, rows, takes, answer, answer[0])
        self.assert_test(4, 2, rows, takes, [-1], answer[0] - 1)


class NoOtherMachinePasses(TestCase):
    def passing(self, k, size, rows, takes, words):
        """All machines of size states that take just the same of these words, but for states that no word
        leads to and for how the states are numbered."""
        expected = [takes[led_to(k, rows, word)] for word in words]
        for other_rows in ordered_rows(k, size):
            # What the words say of the states leaves at most a few ways to tell its takes.
            said = {}
            for word, taken in zip(words, expected):
                if said.setdefault(led_to(k, other_rows, word), taken) != taken:
                    break
            else:
                choices = [(said[state],) if state in said else (0, 1) for state in range(size)]
                for other_takes in itertools.product(*choices):
                    yield other_rows, list(other_takes)

    def strangers(self, k, more, size, rows, takes):
        """Of the machines of size states how many pass the words with more, and how many of these are
        not the same."""
        words = listed_words(machines.test(k, len(takes), more, ENOUGH, rows, takes))
        passed = list(self.passing(k, size, rows, takes, words))
        longest = len(takes) + size - 2
        others = [other for other in passed if apart_by_words(k, rows, takes, *other, longest) != [-1]]
        return len(passed), len(others)

    def least_machines(self, k, n):
        return [
            (rows, list(takes))
            for rows in ordered_rows(k, n)
            for takes in itertools.product((0, 1), repeat=n)
            if least_by_words(k, rows, takes, n - 1, n - 1) == [n, *rows, *takes]
        ]

    def assert_no_stranger(self, k, n, more, limit):
        """At up to limit of all least machines of n states; the words are held against every machine of
        up to n + more states."""
        every = self.least_machines(k, n)
        for rows, takes in every[::len(every) // limit + 1]:
            passed_in_all = 0
            for size in range(1, n + more + 1):
                passed, others = self.strangers(k, more, size, rows, takes)
                self.assertEqual(others, 0, (k, n, more, size, rows, takes))
                passed_in_all += passed
            # It passes its own words.
            self.assertGreater(passed_in_all, 0)

    def test_one_letter(self):
        for n in (1, 2, 3, 4, 5):
            for more in (0, 1, 2):
                self.assert_no_stranger(1, n, more, 1000)

    def test_two_letters(self):
        for n, more, limit in ((1, 0, 9), (1, 1, 9), (1, 2, 9), (2, 0, 99), (2, 1, 99), (2, 2, 12), (3, 0, 99)):
            self.assert_no_stranger(2, n, more, limit)
        self.assert_no_stranger(2, 3, 1, 25)
        self.assert_no_stranger(2, 4, 0, 25)

    def test_three_and_four_letters(self):
        for k, n, more, limit in ((3, 1, 0, 9), (3, 1, 1, 9), (3, 1, 2, 9), (3, 2, 0, 99), (3, 2, 1, 20)):
            self.assert_no_stranger(k, n, more, limit)
        for k, n, more, limit in ((4, 1, 0, 9), (4, 1, 1, 9), (4, 2, 0, 40)):
            self.assert_no_stranger(k, n, more, limit)

    def test_words_for_fewer_states_let_strangers_pass(self):
        # Else the tests above would show nothing.
        for k, n, more in ((1, 2, 0), (1, 2, 1), (2, 2, 0), (2, 2, 1), (3, 2, 0)):
            every = self.least_machines(k, n)
            self.assertGreater(sum(self.strangers(k, more, n + more + 1, *one)[1] for one in every[:20]), 0)


class NotLeast(TestCase):
    def assert_not_least(self, k, rows, takes):
        for more in (0, 1, 2):
            for most in (0, 1, 100, ENOUGH):
                self.assert_test(k, more, rows, takes, [-3], most)

    def test_a_state_that_no_word_leads_to(self):
        self.assert_not_least(1, [0, 0], [0, 1])
        self.assert_not_least(2, [0, 0, 0, 1], [0, 1])
        self.assert_not_least(2, [0, 1, 1, 0, 1, 2], [0, 1, 1])
        for k in (1, 2, 4):
            rows, takes = chain(k, 11, k - 1)
            self.assert_not_least(k, rows + [0] * k, takes + [1])
            self.assert_not_least(k, rows + [11] * k, takes + [0])

    def test_two_states_that_take_the_same_words(self):
        self.assert_not_least(1, [1, 1], [1, 1])
        self.assert_not_least(1, [1, 0], [0, 0])
        self.assert_not_least(2, [1, 2, 0, 1, 0, 2], [0, 1, 1])
        self.assert_not_least(1, *ring(12, [1, 0, 0] * 4))
        for k in (1, 2, 4):
            self.assert_not_least(k, chain(k, 12, 0)[0], [0] * 12)
            self.assert_not_least(k, chain(k, 12, 0)[0], [0] * 10 + [1, 1])

    def test_states_that_are_numbered_in_another_order(self):
        self.assert_not_least(2, [2, 0, 2, 0, 2, 1], [0, 1, 0])
        self.assert_not_least(1, [2, 1, 1], [0, 1, 0])
        # 0 leads to 1 and 0 0 to 2, but 1 leads to 3: 3 comes ahead of 2.
        self.assert_not_least(2, [1, 3, 2, 1, 2, 2, 3, 0], [0, 0, 1, 1])
        for k, n in ((1, 12), (2, 7), (4, 12)):
            for seed in range(5):
                rows, takes = thrown_least(k, n, seed)
                mixed = shuffled_machine(k, rows, takes, seed)
                self.assertNotEqual(mixed[0], rows)
                self.assert_not_least(k, *mixed)
            # The last two alone stand the other way round.
            names = list(range(n - 2)) + [n - 1, n - 2]
            self.assert_not_least(k, *renumbered(k, *chain(k, n, k - 1), names))

    def test_begins_in_another_state_than_0(self):
        # Were it to begin in 1, it would be least.
        self.assert_not_least(1, [0, 0], [1, 0])
        self.assert_not_least(2, *renumbered(2, [0, 1, 1, 2, 2, 2], [0, 0, 1], [1, 0, 2]))

    def test_what_least_gives_is_least(self):
        for k, n in ((1, 12), (2, 12), (3, 10), (4, 12)):
            for seed in range(10):
                answer = least(k, n, *thrown_machine(k, n, seed))
                self.assertGreater(machines.test(k, answer[0], 1, ENOUGH, *told_machine(k, answer))[0], 0)


class Refusals(TestCase):
    right = {"k": (1, 4), "n": (1, 12), "more": (0, 2), "most": (0, 2097152)}
    wrong = {
        "k": (0, 5, -1, 6, 16, 17, SMALLEST, LARGEST),
        "n": (0, 13, -1, 14, 64, 65, SMALLEST, LARGEST),
        "more": (-1, 3, -2, 4, SMALLEST, LARGEST),
        "most": (-1, 2097153, -2, 2097154, SMALLEST, LARGEST),
    }

    def assert_out_of_range(self, **choices):
        for k, n, more, most in itertools.product(*[choices[name] for name in ("k", "n", "more", "most")]):
            self.assertEqual(machines.test(k, n, more, most, [], []), [-2], (k, n, more, most))

    def test_one_out_of_range(self):
        for name in self.right:
            self.assert_out_of_range(**{**self.right, name: self.wrong[name]})

    def test_several_out_of_range(self):
        for name in self.right:
            self.assert_out_of_range(**{**self.wrong, name: self.right[name]})
        self.assert_out_of_range(**self.wrong)

    def test_least_goes_on_to_take_more_letters_and_states(self):
        self.assertEqual(least(5, 1, [0] * 5, [1]), [1] + [0] * 5 + [1])
        self.assertEqual(least(1, 13, *chain(1, 13, 0))[0], 13)
        self.assertEqual(apart(5, 1, 13, [0] * 5, [0], *chain(5, 13, 4)), [12] + [4] * 12)

    def assert_no_machine(self, k, rows, takes):
        for more in (0, 2):
            for most in (0, ENOUGH):
                self.assert_test(k, more, rows, takes, [-3], most)

    def test_no_state_in_rows(self):
        for k, n in ((1, 1), (2, 3), (4, 1), (1, 12), (4, 12)):
            for wrong in (n, n + 1, 12, 13, 255, 65535):
                for place in range(k * n):
                    if wrong >= n:
                        rows, takes = chain(k, n, k - 1)
                        rows[place] = wrong
                        self.assert_no_machine(k, rows, takes)

    def test_neither_0_nor_1_in_takes(self):
        for k, n in ((1, 1), (2, 3), (4, 1), (1, 12), (4, 12)):
            for wrong in (2, 3, 128, 255):
                for place in range(n):
                    rows, takes = chain(k, n, k - 1)
                    takes[place] = wrong
                    self.assert_no_machine(k, rows, takes)

    def test_wrong_at_a_state_that_no_word_leads_to(self):
        self.assert_no_machine(2, [0, 0, 0, 2], [0, 0])
        self.assert_no_machine(2, [0, 0, 1, 1], [0, 2])

    def test_wrong_in_both(self):
        self.assert_no_machine(1, [2, 0], [2, 0])


class WhatHoldsForEveryCall(TestCase):
    calls = [
        (1, 1, 0, 3, [0], [1]),
        (1, 1, 0, 2, [0], [1]),
        (2, 2, 2, ENOUGH, [0, 1, 1, 0], [0, 1]),
        (2, 3, 0, 36, [1, 0, 1, 2, 1, 0], [0, 0, 1]),
        (2, 3, 0, 35, [1, 0, 1, 2, 1, 0], [0, 0, 1]),
        (2, 3, 1, 1000, [1, 2, 0, 1, 0, 2], [0, 1, 1]),
        (1, 12, 2, ENOUGH, *chain(1, 12, 0)),
        (4, 12, 1, ENOUGH, *thrown_least(4, 12, 5)),
        (0, 3, 0, 0, [], []),
        (4, 13, 0, 0, [], []),
        (4, 1, 3, 0, [], []),
        (4, 1, 0, -1, [], []),
        (1, 2, 0, 9, [1, 2], [0, 1]),
        (1, 2, 0, 9, [1, 1], [0, 2]),
    ]

    def test_lists_handed_in_stay_as_they_are(self):
        for *numbers, rows, takes in self.calls:
            own_rows = list(rows)
            own_takes = list(takes)
            machines.test(*numbers, own_rows, own_takes)
            self.assertTrue(own_rows == rows and own_takes == takes, (own_rows, own_takes))

    def test_lists_handed_in_are_not_changed_for_a_while_either(self):
        for *numbers, rows, takes in self.calls:
            watched = machines.test(*numbers, Watched(rows), Watched(takes))
            self.assertTrue(watched == machines.test(*numbers, rows, takes), (rows, takes))

    def test_one_list_handed_in_twice(self):
        both = [1, 0]
        self.assertEqual(machines.test(1, 2, 0, 6, both, both), [6, 0, 1, 0, 2, 0, 0])
        self.assertEqual(both, [1, 0])

    def test_gives_back_a_new_list_of_whole_numbers(self):
        for *numbers, rows, takes in self.calls:
            answer = machines.test(*numbers, rows, takes)
            self.assertIs(type(answer), list)
            self.assertEqual({type(number) for number in answer}, {int})
            for other in (rows, takes, machines.test(*numbers, rows, takes)):
                self.assertIsNot(answer, other)

    def test_nothing_is_kept_between_calls(self):
        alone = [machines.test(*call) for call in self.calls]
        for before in self.calls:
            for call, answer in zip(self.calls, alone):
                # What is done to an answer must not show in a later one.
                machines.test(*before).append(7)
                self.assertTrue(machines.test(*call) == answer, call)

    def test_lists_may_be_changed_between_calls(self):
        rows = [1, 1]
        takes = [0, 1]
        self.assertEqual(machines.test(1, 2, 0, 6, rows, takes), [6, 0, 1, 0, 2, 0, 0])
        takes[1] = 0
        self.assertEqual(machines.test(1, 2, 0, 6, rows, takes), [-3])
        takes[0] = 1
        self.assertEqual(machines.test(1, 2, 0, 5, rows, takes), [-1])
        rows[1] = 2
        self.assertEqual(machines.test(1, 2, 0, 6, rows, takes), [-3])

    def test_arguments_by_their_names(self):
        found = machines.test(k=1, n=1, more=1, most=6, rows=[0], takes=[1])
        self.assertEqual(found, [6, 0, 1, 0, 2, 0, 0])

    def test_prints_nothing(self):
        out = io.StringIO()
        with contextlib.redirect_stdout(out), contextlib.redirect_stderr(out):
            for call in self.calls:
                machines.test(*call)
        self.assertEqual(out.getvalue(), "")


if __name__ == "__main__":
    unittest.main()
