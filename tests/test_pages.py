"""Point 5: pages."""

import random
import unittest

from asking import BEGIN, WIDE, ask, bar, last, note, pages, part, player, sounds
from slow import SlowScore

BIG = 4294967295


def paged(bars, notes, most, rest):
    """What pages answers where there are these bars, and one player with notes (start, length)."""
    calls = [BEGIN, *[bar(length) for length in bars], WIDE]
    return last(*calls, *[note(0, start, length, 60) for start, length in notes], pages(0, most, rest))


def full(many):
    """So many bars of 4 ticks, each with one note that fills it."""
    return [4] * many, [(4 * k, 4) for k in range(many)]


class NoBar(unittest.TestCase):
    def test_whatever_is_asked(self):
        for most in (0, 1, BIG):
            for rest in (0, 1, BIG):
                self.assertEqual(paged([], [], most, rest), [0])


class OnePage(unittest.TestCase):
    def test_one_bar(self):
        self.assertEqual(paged([4], [], 1, 0), [1, 1])
        self.assertEqual(paged([4], [(0, 4)], 1, 0), [1, 1])
        self.assertEqual(paged([4], [(1, 2)], 3, 0), [1, 1])

    def test_several_bars(self):
        self.assertEqual(paged(*full(5), 5, 0), [1, 5])
        self.assertEqual(paged(*full(5), BIG, 0), [1, 5])

    def test_all_bars_empty(self):
        self.assertEqual(paged([4, 3, 2], [], 1, 0), [1, 3])
        self.assertEqual(paged([64] * 64, [], 1, BIG), [1, 64])

    def test_no_turn_is_asked_for_behind_the_last_bar(self):
        for rest in (1, 4, 5, BIG):
            self.assertEqual(paged([4], [(0, 4)], 1, rest), [1, 1])
            self.assertEqual(paged(*full(3), 3, rest), [1, 3])


class WhatStands(unittest.TestCase):
    def held(self, bars, notes, stands):
        """All bars go onto one page, where so much may stand, and not where one less may."""
        self.assertEqual(paged(bars, notes, stands, BIG), [1, len(bars)])
        self.assertEqual(paged(bars, notes, stands - 1, BIG), [-33])

    def test_each_note_is_one(self):
        self.held([4], [(0, 4)], 1)
        self.held([4], [(0, 1), (1, 1), (2, 2)], 3)

    def test_each_rest_is_one(self):
        self.held([4], [(1, 3)], 2)
        self.held([4], [(0, 3)], 2)
        self.held([4], [(1, 2)], 3)
        self.held([4, 4], [(0, 2), (6, 2)], 4)

    def test_each_that_goes_on_is_one(self):
        self.held([4, 4], [(0, 8)], 2)
        self.held([4, 4, 4], [(2, 8)], 5)

    def test_empty_bars_one_behind_another_are_one(self):
        self.held([4, 4, 4], [], 1)
        self.held([4, 4, 4, 4, 4], [(0, 4), (16, 4)], 3)
        self.held([4, 4, 4], [(8, 4)], 2)
        self.held([4, 4, 4], [(0, 4)], 2)

    def test_empty_bars_apart_are_one_each(self):
        self.held([4, 4, 4], [(4, 4)], 3)
        self.held([2] * 7, [(2, 2), (8, 2)], 5)


class SeveralPages(unittest.TestCase):
    def test_one_bar_each(self):
        self.assertEqual(paged(*full(3), 1, 0), [3, 1, 2, 3])

    def test_several_bars_each(self):
        self.assertEqual(paged(*full(6), 2, 0), [3, 2, 4, 6])
        self.assertEqual(paged(*full(6), 3, 0), [2, 3, 6])

    def test_as_many_as_there_may_be(self):
        self.assertEqual(paged(*full(64), 1, 0), [64] + list(range(1, 65)))

    def test_of_several_the_first_has_the_most_bars(self):
        self.assertEqual(paged(*full(5), 2, 0), [3, 2, 4, 5])
        self.assertEqual(paged(*full(4), 3, 0), [2, 3, 4])
        self.assertEqual(paged(*full(7), 5, 0), [2, 5, 7])

    def test_then_the_second(self):
        # The first bar fills its page; of the other seven the second page has four, not three.
        bars, notes = full(8)
        self.assertEqual(paged(bars, [(0, 1), (2, 1)] + notes[1:], 4, 0), [3, 1, 5, 8])

    def test_the_fewest(self):
        # In the bars stand 2, 2, 1, 1, 2, 2, 1, 1; one may turn behind one, two, five and six of them alone.
        notes = [(0, 3), (4, 3), (8, 8), (16, 3), (20, 3), (24, 8)]
        wanted = {12: [1, 8], 11: [2, 6, 8], 10: [2, 6, 8], 9: [2, 5, 8], 8: [2, 5, 8], 7: [3, 2, 6, 8], 6: [3, 2, 6, 8],
                  5: [3, 2, 5, 8], 4: [3, 2, 5, 8], 3: [-33]}
        for most, want in wanted.items():
            self.assertEqual(paged([4] * 8, notes, most, 1), want, most)

    def test_other_players_do_not_matter(self):
        bars, notes = full(3)
        calls = [BEGIN, *[bar(length) for length in bars], WIDE, WIDE]
        calls += [note(1, start, length, 60) for start, length in notes]
        self.assertEqual(ask(*calls, pages(0, 1, 12), pages(1, 1, 0), pages(1, 1, 1))[-3:], [[1, 3], [3, 1, 2, 3], [-33]])


class EmptyBarsAndPages(unittest.TestCase):
    def setUp(self):
        self.bars = [2] * 5
        self.notes = [(0, 2), (8, 2)]

    def test_on_one_page(self):
        self.assertEqual(paged(self.bars, self.notes, 3, 6), [1, 5])
        self.assertEqual(paged(self.bars, self.notes, 2, 6), [2, 4, 5])
        self.assertEqual(paged(self.bars, self.notes, 1, 6), [3, 1, 4, 5])

    def test_parted_they_would_be_one_on_each_page(self):
        # Bar 0 leaves no room for an empty bar more: all of them stand on the second page, as one, with bar 4.
        bars, notes = [4] + [2] * 4, [(0, 1), (2, 1), (10, 2)]
        self.assertEqual(paged(bars, notes, 4, 7), [2, 1, 5])
        # With room for it they stand, as one, on the first, up to where they end.
        self.assertEqual(paged(bars, notes, 5, 7), [2, 4, 5])
        slow = SlowScore()
        for call in [[0], *[bar(length) for length in bars], WIDE, *[note(0, *one, 60) for one in notes]]:
            slow.asked(call)
        self.assertEqual([slow.standing(0, 0, 4), slow.standing(0, 0, 2), slow.standing(0, 2, 5)], [5, 5, 2])


class Turns(unittest.TestCase):
    def enough(self, bars, notes, most, silent, want):
        """One may turn where so many ticks are asked for, and not where one more is."""
        for rest in range(silent + 1):
            self.assertEqual(paged(bars, notes, most, rest), want, rest)
        for rest in (silent + 1, silent + 2, sum(bars) + 1, BIG):
            self.assertEqual(paged(bars, notes, most, rest), [-33], rest)

    def test_silent_before(self):
        self.enough([4, 4], [(0, 1), (4, 4)], 2, 3, [2, 1, 2])

    def test_silent_behind(self):
        self.enough([4, 4], [(0, 4), (6, 2)], 2, 2, [2, 1, 2])

    def test_silent_before_and_behind(self):
        self.enough([4, 4], [(0, 1), (6, 2)], 2, 5, [2, 1, 2])

    def test_notes_that_touch_there(self):
        self.enough([4, 4], [(0, 4), (4, 4)], 1, 0, [2, 1, 2])

    def test_a_note_that_goes_on_there(self):
        self.enough([4, 4], [(2, 4)], 2, 0, [2, 1, 2])
        self.enough([4, 4], [(1, 4)], 2, 0, [2, 1, 2])

    def test_silence_that_is_not_right_there(self):
        self.enough([4, 4], [(0, 1), (3, 1), (4, 1), (7, 1)], 3, 0, [2, 1, 2])

    def test_over_several_bars(self):
        self.enough([4, 4, 4], [(0, 2), (10, 2)], 3, 8, [2, 2, 3])
        self.enough([4, 1, 2, 4, 4], [(0, 3), (14, 1)], 2, 11, [3, 1, 4, 5])
        self.enough([4, 1, 2, 4, 4], [(0, 3), (14, 1)], 3, 11, [2, 4, 5])

    def test_to_the_beginning(self):
        self.enough([2, 2, 2], [(4, 2)], 1, 4, [2, 2, 3])
        self.enough([2, 2, 2, 3], [(7, 2)], 2, 7, [2, 3, 4])

    def test_to_the_last_bars_end(self):
        self.enough([2, 2, 2], [(0, 2)], 1, 4, [2, 1, 3])
        self.enough([3, 2, 2, 2], [(0, 2)], 2, 7, [2, 1, 4])

    def test_rest_0_turns_anywhere(self):
        self.assertEqual(paged([4, 4, 4], [(0, 12)], 1, 0), [3, 1, 2, 3])
        self.assertEqual(paged([4, 4, 4], [(0, 12)], 2, 0), [2, 2, 3])

    def test_rest_more_than_there_are_ticks(self):
        self.assertEqual(paged([4, 4], [], 1, 9), [1, 2])
        self.assertEqual(paged([4, 4], [(0, 1)], 3, 9), [1, 2])
        self.assertEqual(paged([4, 4], [(0, 1)], 2, 9), [-33])

    def test_turns_only_where_one_may(self):
        # In the bars stand 1, 2, 1, 1, 2, 1; silent is one tick behind two of them, and two behind five.
        notes = [(0, 4), (4, 3), (8, 4), (12, 4), (16, 2), (20, 4)]
        self.assertEqual(paged([4] * 6, notes, 5, 1), [2, 2, 6])
        self.assertEqual(paged([4] * 6, notes, 5, 2), [-33])
        self.assertEqual(paged([4] * 6, notes, 7, 2), [2, 5, 6])
        self.assertEqual(paged([4] * 6, notes, 8, 3), [1, 6])


class NoPages(unittest.TestCase):
    def test_a_bar_alone_has_too_much(self):
        self.assertEqual(paged([4], [(0, 2), (2, 2)], 1, 0), [-33])
        for k, want in enumerate(([2, 1, 3], [3, 1, 2, 3], [2, 2, 3])):
            bars, notes = full(3)
            notes[k:k + 1] = [(4 * k, 2), (4 * k + 2, 2)]
            self.assertEqual(paged(bars, notes, 1, 0), [-33])
            self.assertEqual(paged(bars, notes, 2, 0), want)

    def test_one_may_turn_nowhere(self):
        self.assertEqual(paged(*full(3), 2, 1), [-33])
        self.assertEqual(paged([4, 4, 4], [(0, 12)], 2, 1), [-33])

    def test_one_may_turn_but_not_where_it_is_needed(self):
        notes = [(0, 3), (4, 4), (8, 4), (12, 4)]
        self.assertEqual(paged([4] * 4, notes, 3, 1), [2, 1, 4])
        self.assertEqual(paged([4] * 4, notes, 2, 1), [-33])

    def test_most_0(self):
        for rest in (0, 1, BIG):
            self.assertEqual(paged([4], [], 0, rest), [-33])
            self.assertEqual(paged([4, 4], [(0, 4)], 0, rest), [-33])


class Asked(unittest.TestCase):
    def test_no_such_player_comes_first(self):
        for call in (pages(1, 1, 0), pages(1, 0, 0), pages(1, 0, BIG), pages(BIG, BIG, BIG), pages(16, 1, 1)):
            self.assertEqual(last(BEGIN, bar(4), WIDE, call), [-2], call)
            self.assertEqual(last(BEGIN, WIDE, call), [-2], call)
            self.assertEqual(last(BEGIN, call), [-2], call)

    def test_changes_nothing(self):
        state = [part(0)] + [sounds(t) for t in range(8)]
        for call in (pages(0, 2, 0), pages(0, 1, 9), pages(1, 2, 0)):
            rows = ask(BEGIN, bar(4), bar(4), WIDE, note(0, 2, 4, 60), *state, call, *state)
            self.assertEqual(rows[-9:], rows[-19:-10], call)

    def test_shift_and_how_high_do_not_matter(self):
        for shift, high in ((-24, 0), (24, 127), (0, 60)):
            calls = [BEGIN, bar(4), bar(4), player(shift, 0, 127), note(0, 0, 2, high), note(0, 6, 2, 127 - high)]
            self.assertEqual(last(*calls, pages(0, 2, 4)), [2, 1, 2])


class EveryWay(unittest.TestCase):
    def some_calls(self, chance):
        many = chance.randint(0, 7)
        calls = [[0]] + [bar(chance.choice([1, 2, 2, 3, 4])) for _ in range(many)] + [WIDE]
        end = sum(call[1] for call in calls[1:-1])
        for _ in range(chance.choice([0, 1, 2, 4, 8, 16])):
            calls.append(note(0, chance.randint(0, end), chance.choice([1, 1, 2, 3, 6]), 60))
        return calls

    def test_many_small_scores(self):
        seen = {}
        for seed in range(1500):
            chance = random.Random(seed)
            calls = self.some_calls(chance)
            slow = SlowScore()
            for call in calls:
                slow.asked(call)
            mosts = chance.choices([0, 1, 2, 3, 3, 4, 4, 5, 6, 9], k=4)
            asked = list(zip(mosts, chance.choices([0, 1, 1, 2, 2, 3, 4, 6, 30], k=4)))
            rows = ask(*calls, *[pages(0, most, rest) for most, rest in asked])
            for (most, rest), row in zip(asked, rows[-4:]):
                self.assertEqual(row, slow.all_pages(0, most, rest), (seed, most, rest))
                self.assertEqual(row, slow.pages(0, most, rest), (seed, most, rest))
                seen[row[0]] = seen.get(row[0], 0) + 1
        for first in (-33, 0, 1, 2, 3, 4):
            self.assertGreater(seen.get(first, 0), 20, first)


if __name__ == "__main__":
    unittest.main()
