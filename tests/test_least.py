"""Point 1, least, with the refusals ahead of it."""

import contextlib
import io
import itertools
import unittest

from leastone.machines import least
from tests.by_words import least_by_words, led_to, taken_words, told_machine, words_up_to
from tests.making import LARGEST, SMALLEST, Watched, blown_up, chain, renumbered, ring, shuffled_machine, thrown_machine


class LeastCase(unittest.TestCase):
    def assert_least(self, k, rows, takes, answer):
        # Not assertEqual: on a thousand numbers it would look for what differs for minutes.
        found = least(k, len(takes), rows, takes)
        if found != answer:
            self.fail(f"least({k}, {len(takes)}, {rows}, {takes}) is {found}, not {answer}")

    def assert_stays(self, k, rows, takes):
        self.assert_least(k, rows, takes, [len(takes)] + rows + takes)


class OrdinaryMachines(LeastCase):
    def test_least_already(self):
        # Words with an odd number of ones.
        self.assert_stays(2, [0, 1, 1, 0], [0, 1])
        # Words that end in 0 1.
        self.assert_stays(2, [1, 0, 1, 2, 1, 0], [0, 0, 1])
        # Numbers written in twos, the highest first, that three divides.
        self.assert_stays(2, [0, 1, 2, 0, 1, 2], [1, 0, 0])

    def test_state_that_no_word_leads_to(self):
        self.assert_least(2, [0, 2, 1, 1, 2, 0], [0, 1, 1], [2, 0, 1, 1, 0, 0, 1])
        self.assert_least(1, [0, 0, 1], [1, 0, 1], [1, 0, 1])

    def test_unreached_states_that_lead_into_the_reached_ones_go_too(self):
        self.assert_least(1, [1, 0, 3, 0], [0, 1, 1, 0], [2, 1, 0, 0, 1])

    def test_states_that_take_the_same_words(self):
        # From 1 and from 2 letter 0 leads back to 0, and letter 1 stays.
        self.assert_least(2, [1, 2, 0, 1, 0, 2], [0, 1, 1], [2, 1, 1, 0, 1, 0, 1])
        self.assert_least(1, [1, 2, 3, 0], [0, 1, 0, 1], [2, 1, 0, 0, 1])

    def test_states_alike_in_takes_but_not_from_there_on(self):
        self.assert_stays(1, [1, 2, 2], [0, 0, 1])
        self.assert_stays(2, [1, 2, 1, 1, 2, 2], [0, 1, 0])

    def test_first_state_joins_another(self):
        self.assert_least(2, [1, 2, 0, 2, 2, 2], [0, 0, 1], [2, 0, 1, 1, 1, 0, 1])

    def test_least_but_for_the_order(self):
        self.assert_least(2, [2, 0, 2, 0, 2, 1], [0, 1, 0], [3, 1, 0, 1, 2, 1, 0, 0, 0, 1])
        self.assert_least(1, [2, 1, 1], [0, 1, 0], [3, 1, 2, 2, 0, 0, 1])

    def test_shorter_words_come_before_words_with_smaller_letters(self):
        # 0 leads to 1 and 0 0 to 2, but 1 leads to 3: 3 comes ahead of 2.
        rows = [1, 3, 2, 1, 2, 2, 3, 0]
        takes = [0, 0, 1, 1]
        self.assert_least(2, rows, takes, [4, 1, 2, 3, 1, 2, 0, 3, 3, 0, 0, 1, 1])

    def test_among_equally_long_words_the_first_letter_that_differs_counts(self):
        # 0 1 leads to 4, 1 0 to 3: 4 comes ahead of 3.
        rows = [1, 2, 1, 4, 3, 2, 3, 3, 4, 0]
        takes = [0, 0, 0, 1, 1]
        told = [5, 1, 2, 1, 3, 4, 2, 3, 0, 4, 4, 0, 0, 0, 1, 1]
        self.assert_least(2, rows, takes, told)


class Edges(LeastCase):
    def test_one_state(self):
        for k in (1, 2, 16):
            for taken in (0, 1):
                self.assert_stays(k, [0] * k, [taken])

    def test_one_letter(self):
        self.assert_stays(1, [0], [1])
        self.assert_stays(1, [1, 1], [0, 1])
        self.assert_least(1, [1, 1], [1, 1], [1, 0, 1])

    def test_sixteen_letters(self):
        # Each letter in turn is the only one that leads away from 0.
        for letter in range(16):
            rows = [0] * 32
            rows[letter] = 1
            self.assert_stays(16, rows, [0, 1])
            self.assert_least(16, rows, [1, 1], [1] + [0] * 16 + [1])

    def test_sixteen_letters_lead_to_sixteen_states(self):
        rows = list(range(1, 17))
        for state in range(1, 17):
            row = [0] * 16
            row[state - 1] = state
            rows.extend(row)
        self.assert_stays(16, rows, [0] + [1] * 16)
        backwards = [0] + list(range(16, 0, -1))
        turned_rows, turned_takes = renumbered(16, rows, [0] + [1] * 16, backwards)
        self.assertNotEqual(turned_rows, rows)
        self.assert_least(16, turned_rows, turned_takes, [17] + rows + [0] + [1] * 16)

    def test_takes_every_word_or_none(self):
        for k, n in ((1, 1), (1, 64), (2, 2), (3, 7), (16, 1), (16, 64)):
            rows, dropped = thrown_machine(k, n, k + n)
            for taken in (0, 1):
                self.assert_least(k, rows, [taken] * n, [1] + [0] * k + [taken])

    def test_takes_every_word_though_an_unreached_state_has_0(self):
        self.assert_least(2, [0, 0, 1, 0], [1, 0], [1, 0, 0, 1])
        self.assert_least(2, [0, 0, 1, 0], [0, 1], [1, 0, 0, 0])


class SixtyFourStates(LeastCase):
    def test_chain_whose_ends_are_far_apart_stays(self):
        for k, onward in ((1, 0), (2, 0), (2, 1), (16, 0), (16, 15)):
            rows, takes = chain(k, 64, onward)
            self.assert_stays(k, rows, takes)
            self.assert_stays(k, rows, [1 - taken for taken in takes])

    def test_chain_in_another_order_is_put_in_order(self):
        for k, onward in ((1, 0), (2, 1), (16, 7)):
            rows, takes = chain(k, 64, onward)
            for seed in range(5):
                mixed_rows, mixed_takes = shuffled_machine(k, rows, takes, seed)
                self.assertNotEqual(mixed_rows, rows)
                self.assert_least(k, mixed_rows, mixed_takes, [64] + rows + takes)

    def test_ring_where_one_state_takes_stays(self):
        for place in (0, 1, 31, 63):
            takes = [0] * 64
            takes[place] = 1
            rows, takes = ring(64, takes)
            self.assert_stays(1, rows, takes)

    def test_ring_that_repeats_is_folded(self):
        for size in (1, 2, 4, 8, 16, 32):
            rows, takes = ring(64, ([1] + [0] * (size - 1)) * (64 // size))
            small_rows, small_takes = ring(size, [1] + [0] * (size - 1))
            self.assert_least(1, rows, takes, [size] + small_rows + small_takes)

    def test_one_that_repeats_but_for_its_last_state_stays(self):
        rows, takes = ring(64, [1, 0] * 31 + [1, 1])
        self.assert_stays(1, rows, takes)

    def test_tail_into_a_ring(self):
        # 0 to 32 are a tail, 33 to 63 a ring of 31 states.
        rows = list(range(1, 64)) + [33]
        self.assert_stays(1, rows, [0] * 63 + [1])
        # Here the tail goes on backwards as the ring does: it is rolled up into it.
        takes = [1 if state % 31 == 1 else 0 for state in range(64)]
        small_rows, small_takes = ring(31, takes[:31])
        self.assert_least(1, rows, takes, [31] + small_rows + small_takes)

    def test_half_of_the_states_no_word_leads_to(self):
        rows, takes = chain(2, 32, 1)
        more = [state for place in range(32) for state in (place, 32 + place)]
        self.assert_least(2, rows + more, takes + [1] * 32, [32] + rows + takes)

    def test_last_number_of_the_lists_counts(self):
        rows, takes = chain(1, 64, 0)
        self.assert_stays(1, rows[:63] + [0], takes)
        self.assert_least(1, rows, takes[:63] + [0], [1, 0, 0])

    def test_far_apart_machines_hold_against_every_word(self):
        # Of one letter there is but one word of each length: all of them can be run.
        for seed in range(12):
            rows, takes = chain(1, 64, 0)
            rows[63] = seed * 5
            takes[seed * 3] = 1
            mixed_rows, mixed_takes = shuffled_machine(1, rows, takes, seed)
            self.assert_least(1, mixed_rows, mixed_takes, least_by_words(1, mixed_rows, mixed_takes, 63, 63))


class AgainstEveryWord(LeastCase):
    def test_every_small_machine(self):
        for k, n in ((1, 1), (1, 2), (1, 3), (1, 4), (2, 1), (2, 2), (2, 3), (3, 2)):
            for rows in itertools.product(range(n), repeat=k * n):
                for takes in itertools.product((0, 1), repeat=n):
                    self.assert_least(k, list(rows), list(takes), least_by_words(k, rows, takes, n - 1, n - 1))

    def test_thrown_machines(self):
        for k, n in ((1, 64), (2, 5), (2, 8), (3, 6), (4, 5), (16, 3)):
            for seed in range(20):
                rows, takes = thrown_machine(k, n, seed, 2 + seed % 3)
                self.assert_least(k, rows, takes, least_by_words(k, rows, takes, n - 1, n - 1))

    def test_thrown_machines_of_up_to_64_states(self):
        # Letters are many: words of few of them lead to each state and tell all apart. Were they
        # too few for that, the two answers would differ.
        for k, n, reach, tell in ((16, 64, 3, 2), (8, 64, 4, 3), (4, 64, 6, 5), (2, 40, 11, 9)):
            for seed in range(3):
                rows, takes = thrown_machine(k, n, seed)
                self.assert_least(k, rows, takes, least_by_words(k, rows, takes, reach, tell))

    def test_machines_with_states_that_stand_several_times(self):
        for k, size in ((2, 9), (3, 7), (5, 5), (16, 4)):
            for seed in range(6):
                rows, takes = thrown_machine(k, size, seed)
                told = least_by_words(k, rows, takes, size - 1, size - 1)
                many_rows, many_takes = blown_up(k, rows, takes, 64, seed)
                self.assert_least(k, many_rows, many_takes, told)
                mixed_rows, mixed_takes = shuffled_machine(k, many_rows, many_takes, seed)
                self.assert_least(k, mixed_rows, mixed_takes, told)

    def test_answer_is_a_least_machine_and_the_same(self):
        for k, n, longest in ((2, 64, 12), (3, 50, 7), (16, 64, 3)):
            words = words_up_to(k, longest)
            for seed in range(3):
                small_rows, small_takes = thrown_machine(k, n // 4, seed)
                rows, takes = blown_up(k, small_rows, small_takes, n, seed)
                new_rows, new_takes = told_machine(k, least(k, n, rows, takes))
                for word in words:
                    self.assertEqual(takes[led_to(k, rows, word)], new_takes[led_to(k, new_rows, word)], word)
                firsts = list(dict.fromkeys(led_to(k, new_rows, word) for word in words))
                self.assertEqual(firsts, list(range(len(new_takes))))
                tails = words[:1000]
                told_apart = {taken_words(k, new_rows, new_takes, tails, state) for state in firsts}
                self.assertEqual(len(told_apart), len(firsts))

    def test_answer_stays_when_asked_again(self):
        for k, n in ((1, 64), (2, 64), (7, 33), (16, 64)):
            for seed in range(5):
                rows, takes = thrown_machine(k, n, seed)
                once = least(k, n, rows, takes)
                self.assert_stays(k, *told_machine(k, once))


class Refusals(LeastCase):
    def test_k_out_of_range(self):
        for k in (0, 17, -1, -16, 65536, SMALLEST, LARGEST):
            for n in (1, 2, 64):
                self.assertEqual(least(k, n, [], []), [-2])

    def test_n_out_of_range(self):
        for n in (0, 65, -1, -64, 65536, SMALLEST, LARGEST):
            for k in (1, 2, 16):
                self.assertEqual(least(k, n, [], []), [-2])

    def test_both_out_of_range(self):
        for k in (0, 17, -1, SMALLEST, LARGEST):
            for n in (0, 65, -1, SMALLEST, LARGEST):
                self.assertEqual(least(k, n, [], []), [-2])

    def test_ends_of_the_ranges_are_no_refusal(self):
        for k in (1, 16):
            for n in (1, 64):
                self.assertEqual(least(k, n, [n - 1] * (k * n), [1] * n)[0], 1)

    def test_no_state_in_rows(self):
        for k, n in ((1, 1), (2, 3), (16, 1), (1, 64), (16, 64)):
            for wrong in (n, n + 1, 255, 65535):
                for place in sorted({0, k * n // 2, k * n - 1}):
                    rows = [0] * (k * n)
                    rows[place] = wrong
                    self.assertEqual(least(k, n, rows, [0] * n), [-3])

    def test_neither_0_nor_1_in_takes(self):
        for k, n in ((1, 1), (2, 3), (16, 1), (1, 64), (16, 64)):
            rows, dropped = chain(k, n, k - 1)
            for wrong in (2, 3, 128, 255):
                for place in sorted({0, n // 2, n - 1}):
                    takes = [1] * n
                    takes[place] = wrong
                    self.assertEqual(least(k, n, rows, takes), [-3])

    def test_wrong_at_a_state_that_no_word_leads_to(self):
        self.assertEqual(least(2, 2, [0, 0, 0, 2], [0, 0]), [-3])
        self.assertEqual(least(2, 2, [0, 0, 65535, 0], [1, 1]), [-3])
        self.assertEqual(least(2, 2, [0, 0, 1, 1], [0, 2]), [-3])
        self.assertEqual(least(2, 2, [0, 0, 1, 1], [0, 255]), [-3])

    def test_wrong_in_both(self):
        self.assertEqual(least(1, 2, [2, 0], [2, 0]), [-3])


class WhatHoldsForEveryCall(LeastCase):
    machines = [
        (1, 1, [0], [1]),
        (2, 3, [1, 2, 0, 1, 0, 2], [0, 1, 1]),
        (2, 3, [2, 0, 2, 0, 2, 1], [0, 1, 0]),
        (1, 64, *chain(1, 64, 0)),
        (16, 64, *thrown_machine(16, 64, 5)),
        (0, 3, [], []),
        (3, 65, [], []),
        (1, 2, [1, 2], [0, 1]),
        (1, 2, [1, 1], [0, 2]),
    ]

    def test_lists_handed_in_stay_as_they_are(self):
        for k, n, rows, takes in self.machines:
            own_rows = list(rows)
            own_takes = list(takes)
            least(k, n, own_rows, own_takes)
            self.assertTrue(own_rows == rows and own_takes == takes, (own_rows, own_takes))

    def test_lists_handed_in_are_not_changed_for_a_while_either(self):
        for k, n, rows, takes in self.machines:
            self.assertTrue(least(k, n, Watched(rows), Watched(takes)) == least(k, n, rows, takes), (rows, takes))

    def test_gives_back_a_new_list_of_whole_numbers(self):
        for k, n, rows, takes in self.machines:
            answer = least(k, n, rows, takes)
            self.assertIs(type(answer), list)
            self.assertEqual({type(number) for number in answer}, {int})
            self.assertIsNot(answer, rows)
            self.assertIsNot(answer, takes)
            self.assertIsNot(answer, least(k, n, rows, takes))

    def test_nothing_is_kept_between_calls(self):
        alone = [least(*machine) for machine in self.machines]
        for before in self.machines:
            for machine, answer in zip(self.machines, alone):
                # What is done to an answer must not show in a later one.
                least(*before).append(7)
                self.assertTrue(least(*machine) == answer, machine)

    def test_lists_may_be_changed_between_calls(self):
        rows = [1, 1]
        takes = [0, 1]
        self.assertEqual(least(1, 2, rows, takes), [2, 1, 1, 0, 1])
        takes[0] = 1
        self.assertEqual(least(1, 2, rows, takes), [1, 0, 1])
        rows[0] = 2
        self.assertEqual(least(1, 2, rows, takes), [-3])

    def test_arguments_by_their_names(self):
        self.assertEqual(least(k=1, n=2, rows=[1, 1], takes=[0, 1]), [2, 1, 1, 0, 1])

    def test_prints_nothing(self):
        out = io.StringIO()
        with contextlib.redirect_stdout(out), contextlib.redirect_stderr(out):
            for machine in self.machines:
                least(*machine)
        self.assertEqual(out.getvalue(), "")


if __name__ == "__main__":
    unittest.main()
