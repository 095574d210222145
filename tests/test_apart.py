"""Point 2, apart, with the refusals ahead of it."""

import contextlib
import io
import itertools
import unittest

from leastone.machines import apart, least
from tests.by_words import apart_by_words, led_to, told_machine
from tests.making import (
    LARGEST, SMALLEST, Numbers, Watched, blown_up, chain, listing, ring, shared_beginning, shuffled_machine,
    tailed_ring, thrown_machine, with_idle_letters,
)


class ApartCase(unittest.TestCase):
    def assert_apart(self, k, one, other, answer):
        """Both ways round: which of the two machines comes first makes no difference."""
        for (rows, takes), (rows2, takes2) in ((one, other), (other, one)):
            found = apart(k, len(takes), len(takes2), rows, takes, rows2, takes2)
            # Not assertEqual, which is slow to tell how long lists differ.
            if found != answer:
                self.fail(f"of {k} letters, {rows, takes} and {rows2, takes2}: {found}, not {answer}")

    def assert_same(self, k, one, other):
        self.assert_apart(k, one, other, [-1])


class MachinesThatAreTheSame(ApartCase):
    def test_equal_ones(self):
        self.assert_same(1, ([0], [0]), ([0], [0]))
        self.assert_same(1, ([0], [1]), ([0], [1]))
        self.assert_same(2, ([0, 1, 1, 0], [0, 1]), ([0, 1, 1, 0], [0, 1]))
        for k, n in ((1, 64), (2, 7), (3, 64), (16, 64)):
            for seed in range(3):
                self.assert_same(k, thrown_machine(k, n, seed), thrown_machine(k, n, seed))

    def test_unlike_numbers_of_states(self):
        self.assert_same(2, ([1, 2, 0, 1, 0, 2], [0, 1, 1]), ([1, 1, 0, 1], [0, 1]))
        self.assert_same(1, ([1, 2, 3, 0], [0, 1, 0, 1]), ([1, 0], [0, 1]))
        for k, size, n, m in ((2, 5, 9, 23), (3, 4, 4, 64), (16, 10, 64, 33)):
            for seed in range(5):
                small = thrown_machine(k, size, seed)
                self.assert_same(k, blown_up(k, *small, n, seed), blown_up(k, *small, m, seed + 100))

    def test_states_numbered_otherwise(self):
        self.assert_same(2, ([2, 0, 2, 0, 2, 1], [0, 1, 0]), ([1, 0, 1, 2, 1, 0], [0, 0, 1]))
        for k, n in ((1, 64), (2, 40), (16, 64)):
            for seed in range(5):
                machine = thrown_machine(k, n, seed)
                self.assert_same(k, machine, shuffled_machine(k, *machine, seed))

    def test_states_that_no_word_leads_to(self):
        self.assert_same(1, ([0, 0, 1], [1, 0, 1]), ([0], [1]))
        self.assert_same(2, ([0, 2, 1, 1, 2, 0], [0, 1, 1]), ([0, 1, 1, 0], [0, 1]))
        # Only the states differ that no word leads to.
        self.assert_same(2, ([0, 0, 1, 0], [1, 0]), ([0, 0, 0, 1], [1, 1]))
        rows, takes = chain(2, 32, 1)
        more = [state for place in range(32) for state in (place, 32 + place)]
        self.assert_same(2, (rows, takes), (rows + more, takes + [1] * 32))
        self.assert_same(2, (rows + more, takes + [0] * 32), (rows + more, takes + [1] * 32))

    def test_take_every_word_or_none(self):
        for k, n, m in ((1, 1, 64), (2, 3, 5), (16, 64, 64)):
            for taken in (0, 1):
                one = (thrown_machine(k, n, 1)[0], [taken] * n)
                other = (thrown_machine(k, m, 2)[0], [taken] * m)
                self.assert_same(k, one, other)

    def test_the_least_machine_is_the_same(self):
        for k, n in ((1, 64), (2, 64), (5, 30), (16, 64)):
            for seed in range(5):
                machine = thrown_machine(k, n, seed)
                self.assert_same(k, machine, told_machine(k, least(k, n, *machine)))


class MachinesThatDiffer(ApartCase):
    def test_on_the_word_of_no_letters(self):
        self.assert_apart(1, ([0], [0]), ([0], [1]), [0])
        self.assert_apart(2, ([0, 1, 1, 0], [0, 1]), ([0, 1, 1, 0], [1, 1]), [0])
        # They differ on every longer word too.
        self.assert_apart(2, ([0, 1, 1, 0], [0, 1]), ([0, 1, 1, 0], [1, 0]), [0])
        for k, n, m in ((1, 64, 64), (16, 64, 1), (16, 64, 64)):
            rows, takes = thrown_machine(k, n, 3)
            rows2, takes2 = thrown_machine(k, m, 4)
            self.assert_apart(k, (rows, [0] + takes[1:]), (rows2, [1] + takes2[1:]), [0])

    def test_on_one_letter(self):
        self.assert_apart(1, ([1, 1], [0, 1]), ([0], [0]), [1, 0])
        self.assert_apart(2, ([0, 1, 1, 0], [0, 1]), ([0, 0], [0]), [1, 1])
        for letter in range(16):
            rows = [0] * 32
            rows[letter] = 1
            self.assert_apart(16, (rows, [0, 1]), ([0] * 16, [0]), [1, letter])
            self.assert_apart(16, (rows, [1, 0]), ([0] * 16, [1]), [1, letter])

    def test_on_several_words_of_one_length(self):
        self.assert_apart(3, listing(3, {(1, 0), (2, 1), (2, 0)}), listing(3, set()), [2, 1, 0])
        self.assert_apart(3, listing(3, {(1, 0), (2, 1), (2, 0), (0, 2)}), listing(3, set()), [2, 0, 2])
        # The first letter that differs counts, not the last, not the sum.
        self.assert_apart(2, listing(2, {(0, 1, 1)}), listing(2, {(1, 0, 0)}), [3, 0, 1, 1])
        self.assert_apart(16, listing(16, {(3, 15)}), listing(16, {(4, 0)}), [2, 3, 15])
        self.assert_apart(3, listing(3, {(2, 0, 2), (2, 1, 0)}), listing(3, {(2, 1, 0), (2, 0, 1)}), [3, 2, 0, 1])

    def test_shorter_words_come_before_words_with_smaller_letters(self):
        self.assert_apart(2, listing(2, {(0, 0, 0), (1, 1)}), listing(2, set()), [2, 1, 1])
        self.assert_apart(16, listing(16, {(15,)}), listing(16, {(0, 0)}), [1, 15])

    def test_which_of_the_two_takes_the_word_makes_no_difference(self):
        self.assert_apart(2, listing(2, {(0, 1)}), listing(2, {(1, 0)}), [2, 0, 1])
        self.assert_apart(2, listing(2, {(0, 1)}, 1), listing(2, {(1, 0)}, 1), [2, 0, 1])

    def test_on_ordinary_words(self):
        # Words that end in 0 1, and words with 0 1 somewhere: first 0 1 0 is in one alone.
        self.assert_apart(2, ([1, 0, 1, 2, 1, 0], [0, 0, 1]), ([1, 0, 1, 2, 2, 2], [0, 0, 1]), [3, 0, 1, 0])
        # Numbers in twos, the highest first, that three divides, and that five divides: first 3.
        by_three = ([0, 1, 2, 0, 1, 2], [1, 0, 0])
        by_five = ([0, 1, 2, 3, 4, 0, 1, 2, 3, 4], [1, 0, 0, 0, 0])
        self.assert_apart(2, by_three, by_five, [2, 1, 1])

    def test_a_word_back_through_states_that_were_seen(self):
        # The first machine is in 0 again and again, the pair of states is new each time.
        self.assert_apart(1, ring(2, [1, 0]), ring(4, [1, 0, 1, 1]), [3, 0, 0, 0])
        self.assert_apart(1, ([0], [0]), chain(1, 9, 0), [8] + [0] * 8)

    def test_on_a_long_word(self):
        for k, length in ((1, 62), (2, 62), (3, 40), (16, 62)):
            for seed in range(5):
                numbers = Numbers(seed)
                word = tuple(numbers.below(k) for place in range(length))
                for others in (0, 1):
                    lock = listing(k, {word}, others)
                    self.assertEqual(len(lock[1]), length + 2)
                    self.assert_apart(k, lock, ([0] * k, [others]), [length, *word])
                    mixed = shuffled_machine(k, *lock, seed)
                    self.assert_apart(k, mixed, ([0] * k, [others]), [length, *word])

    def test_of_two_long_words_the_first(self):
        for k in (2, 3, 16):
            for place in (0, 1, 30, 60, 61):
                one = (k - 1,) * place + (0,) + (k - 1,) * (61 - place)
                other = (k - 1,) * place + (1,) + (0,) * (61 - place)
                self.assert_apart(k, listing(k, {one}), listing(k, {other}), [62, *one])
            self.assert_apart(k, listing(k, {(0,) * 62}), listing(k, {(k - 1,) * 61}), [61] + [k - 1] * 61)


class Edges(ApartCase):
    def test_one_state_and_64(self):
        for k, onward in ((1, 0), (2, 1), (16, 0), (16, 15)):
            self.assert_apart(k, ([0] * k, [0]), chain(k, 64, onward), [63] + [onward] * 63)
            self.assert_same(k, ([0] * k, [1]), (chain(k, 64, onward)[0], [1] * 64))

    def test_chains_of_64_states_that_differ_at_the_end(self):
        for k, onward in ((1, 0), (2, 0), (16, 9)):
            rows, takes = chain(k, 64, onward)
            self.assert_apart(k, (rows, takes), (rows, [0] * 64), [63] + [onward] * 63)
            back = rows[:63 * k + onward] + [0] + rows[63 * k + onward + 1:]
            self.assert_apart(k, (rows, takes), (back, takes), [64] + [onward] * 64)

    def test_last_numbers_of_the_lists_count(self):
        rows, takes = ring(64, [0] * 63 + [1])
        self.assert_apart(1, (rows, takes), (rows[:63] + [63], takes), [64] + [0] * 64)
        self.assert_apart(1, (rows, takes), (rows, takes[:63] + [0]), [63] + [0] * 63)

    def test_rings_whose_lengths_share_no_factor(self):
        for size, size2 in ((64, 63), (61, 64), (2, 63), (7, 9), (1, 64)):
            # All pairs of states are gone through, and none differs.
            self.assert_same(1, ring(size, [1] * size), ring(size2, [1] * size2))
            one = ring(size, [0] * (size - 1) + [1])
            other = ring(size2, [0] * (size2 - 1) + [1])
            shorter = min(size, size2) - 1
            self.assert_apart(1, one, other, [shorter] + [0] * shorter)

    def test_rings_that_differ_as_late_as_rings_can(self):
        for size, size2 in ((64, 63), (64, 61), (63, 62), (5, 3), (2, 63)):
            both = shared_beginning(size, size2)
            one = ring(size, (both + both)[:size])
            other = ring(size2, (both + both)[:size2])
            late = size + size2 - 2
            self.assert_apart(1, one, other, [late] + [0] * late)
            self.assertEqual(apart_by_words(1, *one, *other, 200), [late] + [0] * late)

    def test_rings_whose_lengths_share_a_factor(self):
        self.assert_same(1, ring(64, [1, 0, 0, 0] * 16), ring(4, [1, 0, 0, 0]))
        self.assert_same(1, ring(60, [1, 0, 0] * 20), ring(63, [1, 0, 0] * 21))
        # Ten letters lead round the one ring, but only as far as a state with 0 in the other.
        self.assert_apart(1, ring(10, [1, 0, 0, 0, 0] * 2), ring(15, [1, 0, 0, 0, 0] * 2 + [0] * 5), [10] + [0] * 10)

    def longest_apart(self):
        """A ring of 64 states, and one state ahead of a ring of 63."""
        both = shared_beginning(64, 63)
        ahead = both[63]
        return ring(64, [ahead] + both[:63]), tailed_ring(1, [ahead] + both[:63])

    def test_first_word_apart_as_long_as_can_be(self):
        # Two machines of n and m states that differ do so on a word of at most n + m - 2 letters.
        one, other = self.longest_apart()
        self.assertEqual((len(one[1]), len(other[1])), (64, 64))
        self.assert_apart(1, one, other, [126] + [0] * 126)
        self.assertEqual(apart_by_words(1, *one, *other, 200), [126] + [0] * 126)

    def test_first_word_apart_as_long_as_can_be_with_more_letters(self):
        # All letters but one stay in their state: a word is what this one alone makes of it.
        one, other = self.longest_apart()
        for k in (2, 3, 16):
            for onward in (0, k - 1):
                many = (with_idle_letters(k, one[0], onward), one[1])
                many2 = (with_idle_letters(k, other[0], onward), other[1])
                self.assert_apart(k, many, many2, [126] + [onward] * 126)
                mixed = shuffled_machine(k, *many, k)
                self.assert_apart(k, mixed, many2, [126] + [onward] * 126)

    def test_64_and_64_states_through_all_pairs(self):
        # One letter goes round in the first machine alone, one in the second alone.
        stay = list(range(64))
        rows, dropped = ring(64, stay)
        one = [state for pair in zip(rows, stay) for state in pair]
        other = [state for pair in zip(stay, rows) for state in pair]
        self.assert_same(2, (one, [1] * 64), (other, [1] * 64))
        self.assert_apart(2, (one, [0] * 63 + [1]), (other, [0] * 64), [63] + [0] * 63)
        self.assert_apart(2, (one, [0] * 64), (other, [0] * 63 + [1]), [63] + [1] * 63)

    def test_nearly_all_pairs_come_before_the_one_that_differs(self):
        # Two letters from 0 to 14 are enough to lead to any state of the second machine; the first stays.
        rows = [(5 * state + letter) % 64 for state in range(64) for letter in range(15)]
        other = [place for state in range(64) for place in rows[15 * state:15 * state + 15] + [state]]
        self.assert_apart(16, chain(16, 64, 15), (other, [0] * 64), [63] + [15] * 63)


class AgainstEveryWord(ApartCase):
    def machines(self, k, n):
        return [
            (list(rows), list(takes))
            for rows in itertools.product(range(n), repeat=k * n)
            for takes in itertools.product((0, 1), repeat=n)
        ]

    def test_every_two_small_machines(self):
        for k, n, m in ((1, 1, 1), (1, 1, 3), (1, 2, 2), (1, 3, 3), (2, 1, 2), (2, 2, 2), (3, 1, 2)):
            for one in self.machines(k, n):
                for other in self.machines(k, m):
                    self.assert_apart(k, one, other, apart_by_words(k, *one, *other, n + m - 2))

    def test_two_small_thrown_machines(self):
        for k, n, m in ((1, 64, 64), (1, 40, 1), (2, 4, 5), (2, 7, 3), (3, 4, 3), (4, 2, 4), (16, 2, 2)):
            for seed in range(30):
                one = thrown_machine(k, n, seed, 2 + seed % 4)
                other = thrown_machine(k, m, seed + 1000, 2 + seed % 4)
                self.assert_apart(k, one, other, apart_by_words(k, *one, *other, n + m - 2))

    def test_large_machines_that_differ_at_one_state(self):
        found = []
        for k, n, longest in ((2, 64, 13), (3, 64, 9), (5, 50, 6), (16, 64, 4)):
            for seed in range(12):
                rows, takes = thrown_machine(k, n, seed)
                changed = list(takes)
                place = Numbers(seed + 50).below(n)
                changed[place] = 1 - changed[place]
                other = shuffled_machine(k, rows, changed, seed)
                answer = apart_by_words(k, rows, takes, *other, longest)
                # Where words of so many letters don't tell them apart, no word leads there.
                self.assert_apart(k, (rows, takes), other, answer)
                found.append(answer[0])
        self.assertGreater(max(found), 4)
        self.assertIn(-1, found)

    def test_large_machines_that_differ_in_one_row(self):
        found = []
        for k, n, longest in ((2, 64, 14), (3, 64, 9), (16, 64, 4)):
            for seed in range(12):
                rows, takes = thrown_machine(k, n, seed, 3)
                numbers = Numbers(seed + 70)
                changed = list(rows)
                changed[numbers.below(k * n)] = numbers.below(n)
                other = shuffled_machine(k, changed, takes, seed)
                answer = apart_by_words(k, rows, takes, *other, longest)
                self.assert_apart(k, (rows, takes), other, answer)
                found.append(answer[0])
        self.assertGreater(max(found), 4)

    def test_one_that_stands_several_times_and_differs_in_one_place(self):
        for k, size, longest in ((2, 9, 13), (3, 8, 9), (4, 12, 7)):
            for seed in range(8):
                small = thrown_machine(k, size, seed)
                rows, takes = blown_up(k, *small, 64, seed)
                place = Numbers(seed + 90).below(64)
                takes[place] = 1 - takes[place]
                answer = apart_by_words(k, *small, rows, takes, longest)
                if answer == [-1]:
                    # Then it has to be that no word leads to the place that was changed.
                    reached = {0}
                    for state in list(range(64)) * 64:
                        if state in reached:
                            reached.update(rows[k * state:k * state + k])
                    self.assertNotIn(place, reached)
                self.assert_apart(k, small, (rows, takes), answer)

    def test_lists_of_words(self):
        # What each machine takes is known without it: the first word that is in one list alone.
        for k, longest in ((1, 30), (2, 6), (3, 4), (16, 3)):
            for seed in range(40):
                numbers = Numbers(seed)
                words = {
                    tuple(numbers.below(k) for place in range(numbers.below(longest + 1)))
                    for number in range(10)
                }
                other_words = {word for word in words if numbers.below(4) > 0}
                other_words.add(tuple(numbers.below(k) for place in range(longest)))
                differ = sorted(words ^ other_words, key=lambda word: (len(word), word))
                answer = [len(differ[0]), *differ[0]] if differ else [-1]
                one = listing(k, words)
                other = listing(k, other_words)
                self.assertLessEqual(max(len(one[1]), len(other[1])), 64)
                self.assert_apart(k, one, other, answer)

    def test_just_one_takes_the_word_and_no_word_ahead_of_it(self):
        for k, n, m in ((2, 64, 64), (3, 20, 64), (16, 64, 64)):
            for seed in range(10):
                one = thrown_machine(k, n, seed, 12)
                other = thrown_machine(k, m, seed + 500, 12)
                answer = apart(k, n, m, *one, *other)
                word = answer[1:]
                self.assertEqual(answer[0], len(word))
                self.assertNotEqual(one[1][led_to(k, one[0], word)], other[1][led_to(k, other[0], word)])
                self.assertEqual(apart_by_words(k, *one, *other, len(word)), answer)


class Refusals(ApartCase):
    out_of_range = (0, -1, -16, -64, 65536, SMALLEST, LARGEST)

    def test_k_out_of_range(self):
        for k in self.out_of_range + (17,):
            for n, m in ((1, 1), (1, 64), (64, 1), (64, 64)):
                self.assertEqual(apart(k, n, m, [], [], [], []), [-2])

    def test_n_out_of_range(self):
        for n in self.out_of_range + (65,):
            for k, m in ((1, 1), (1, 64), (16, 1), (16, 64)):
                self.assertEqual(apart(k, n, m, [], [], [], []), [-2])

    def test_m_out_of_range(self):
        for m in self.out_of_range + (65,):
            for k, n in ((1, 1), (1, 64), (16, 1), (16, 64)):
                self.assertEqual(apart(k, n, m, [], [], [], []), [-2])

    def test_several_out_of_range(self):
        for k in (0, 1, 17, SMALLEST):
            for n in (0, 65, LARGEST):
                for m in (0, 65, -1):
                    self.assertEqual(apart(k, n, m, [], [], [], []), [-2])

    def test_ends_of_the_ranges_are_no_refusal(self):
        for k in (1, 16):
            for n in (1, 64):
                for m in (1, 64):
                    one = ([n - 1] * (k * n), [1] * n)
                    other = ([m - 1] * (k * m), [1] * m)
                    self.assert_same(k, one, other)

    def assert_no_machine(self, k, rows, takes, right_rows, right_takes):
        """A wrong machine is refused as the first one and as the second."""
        n = len(takes)
        m = len(right_takes)
        self.assertEqual(apart(k, n, m, rows, takes, right_rows, right_takes), [-3])
        self.assertEqual(apart(k, m, n, right_rows, right_takes, rows, takes), [-3])

    def test_no_state_in_rows(self):
        for k, n in ((1, 1), (2, 3), (16, 1), (1, 64), (16, 64)):
            right = thrown_machine(k, 5, n)
            for wrong in (n, n + 1, 255, 65535):
                for place in sorted({0, k * n // 2, k * n - 1}):
                    rows = [0] * (k * n)
                    rows[place] = wrong
                    self.assert_no_machine(k, rows, [0] * n, *right)

    def test_a_state_of_the_other_machine_alone(self):
        for k, n, m in ((1, 1, 2), (2, 3, 4), (16, 1, 64), (2, 63, 64)):
            right = ([m - 1] * (k * m), [0] * m)
            for wrong in sorted({n, m - 1}):
                for place in sorted({0, k * n - 1}):
                    rows = [0] * (k * n)
                    rows[place] = wrong
                    self.assert_no_machine(k, rows, [0] * n, *right)

    def test_neither_0_nor_1_in_takes(self):
        for k, n in ((1, 1), (2, 3), (16, 1), (1, 64), (16, 64)):
            rows, dropped = chain(k, n, k - 1)
            right = chain(k, 5, 0)
            for wrong in (2, 3, 128, 255):
                for place in sorted({0, n // 2, n - 1}):
                    takes = [1] * n
                    takes[place] = wrong
                    self.assert_no_machine(k, rows, takes, *right)

    def test_wrong_at_a_state_that_no_word_leads_to(self):
        right = ([0, 0], [0])
        self.assert_no_machine(2, [0, 0, 0, 2], [0, 0], *right)
        self.assert_no_machine(2, [0, 0, 65535, 0], [0, 0], *right)
        self.assert_no_machine(2, [0, 0, 1, 1], [0, 2], *right)
        self.assert_no_machine(2, [0, 0, 1, 1], [0, 255], *right)

    def test_wrong_though_they_differ_on_the_word_of_no_letters(self):
        right = ([0, 0], [1])
        self.assert_no_machine(2, [0, 0, 0, 2], [0, 0], *right)
        self.assert_no_machine(2, [2, 0, 0, 0], [0, 0], *right)
        self.assert_no_machine(2, [0, 0, 1, 1], [0, 2], *right)
        self.assert_no_machine(2, [0, 0, 1, 1], [2, 0], *right)

    def test_wrong_though_one_is_handed_in_twice(self):
        for rows, takes in (([2, 0], [0, 1]), ([1, 0], [2, 1]), ([1, 0], [0, 255]), ([0, 2], [0, 0])):
            self.assertEqual(apart(1, 2, 2, rows, takes, rows, takes), [-3])

    def test_both_wrong(self):
        self.assertEqual(apart(1, 2, 1, [2, 0], [0, 1], [1], [0]), [-3])
        self.assertEqual(apart(1, 2, 1, [1, 0], [0, 2], [0], [3]), [-3])


class WhatHoldsForEveryCall(ApartCase):
    calls = [
        (1, 1, 1, [0], [1], [0], [0]),
        (2, 3, 2, [1, 2, 0, 1, 0, 2], [0, 1, 1], [1, 1, 0, 1], [0, 1]),
        (2, 3, 3, [1, 0, 1, 2, 1, 0], [0, 0, 1], [1, 0, 1, 2, 2, 2], [0, 0, 1]),
        (1, 1, 64, [0], [0], *chain(1, 64, 0)),
        (16, 64, 64, *thrown_machine(16, 64, 5), *thrown_machine(16, 64, 6)),
        (3, 64, 64, *thrown_machine(3, 64, 5), *shuffled_machine(3, *thrown_machine(3, 64, 5), 1)),
        (0, 3, 3, [], [], [], []),
        (3, 65, 1, [], [], [], []),
        (3, 1, 0, [], [], [], []),
        (1, 2, 1, [1, 2], [0, 1], [0], [0]),
        (1, 1, 2, [0], [1], [1, 1], [0, 2]),
    ]

    def test_lists_handed_in_stay_as_they_are(self):
        for k, n, m, *lists in self.calls:
            own = [list(numbers) for numbers in lists]
            apart(k, n, m, *own)
            self.assertTrue(own == lists, own)

    def test_lists_handed_in_are_not_changed_for_a_while_either(self):
        for k, n, m, *lists in self.calls:
            watched = [Watched(numbers) for numbers in lists]
            self.assertTrue(apart(k, n, m, *watched) == apart(k, n, m, *lists), lists)

    def test_one_list_handed_in_twice(self):
        for k, n in ((1, 1), (1, 64), (2, 5), (16, 64)):
            rows, takes = thrown_machine(k, n, 8)
            own_rows = Watched(rows)
            own_takes = Watched(takes)
            self.assertEqual(apart(k, n, n, own_rows, own_takes, own_rows, own_takes), [-1])
            self.assertTrue(own_rows == rows and own_takes == takes)
        # Rows alone, takes alone, and rows that are takes too.
        rows, takes = chain(1, 4, 0)
        self.assertEqual(apart(1, 4, 4, rows, takes, rows, [0] * 4), [3, 0, 0, 0])
        self.assertEqual(apart(1, 4, 4, rows, takes, [0] * 4, takes), [3, 0, 0, 0])
        both = [1, 0]
        self.assertEqual(apart(1, 2, 2, both, both, both, both), [-1])
        self.assertEqual(apart(1, 2, 1, both, both, [0], [1]), [1, 0])
        self.assertEqual((rows, takes, both), (*chain(1, 4, 0), [1, 0]))

    def test_gives_back_a_new_list_of_whole_numbers(self):
        for k, n, m, *lists in self.calls:
            answer = apart(k, n, m, *lists)
            self.assertIs(type(answer), list)
            self.assertEqual({type(number) for number in answer}, {int})
            for numbers in lists + [apart(k, n, m, *lists)]:
                self.assertIsNot(answer, numbers)

    def test_nothing_is_kept_between_calls(self):
        alone = [apart(*call) for call in self.calls]
        for before in self.calls:
            for call, answer in zip(self.calls, alone):
                # What is done to an answer must not show in a later one.
                apart(*before).append(7)
                least(2, 3, [1, 2, 0, 1, 0, 2], [0, 1, 1]).append(7)
                self.assertTrue(apart(*call) == answer, call)

    def test_lists_may_be_changed_between_calls(self):
        rows = [1, 1]
        takes = [0, 1]
        self.assertEqual(apart(1, 2, 1, rows, takes, [0], [0]), [1, 0])
        takes[1] = 0
        self.assertEqual(apart(1, 2, 1, rows, takes, [0], [0]), [-1])
        takes[0] = 1
        self.assertEqual(apart(1, 2, 1, rows, takes, [0], [0]), [0])
        rows[1] = 2
        self.assertEqual(apart(1, 2, 1, rows, takes, [0], [0]), [-3])

    def test_arguments_by_their_names(self):
        found = apart(k=1, n=2, m=1, rows=[1, 1], takes=[0, 1], rows2=[0], takes2=[0])
        self.assertEqual(found, [1, 0])

    def test_prints_nothing(self):
        out = io.StringIO()
        with contextlib.redirect_stdout(out), contextlib.redirect_stderr(out):
            for call in self.calls:
                apart(*call)
        self.assertEqual(out.getvalue(), "")


if __name__ == "__main__":
    unittest.main()
