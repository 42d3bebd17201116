"""Point 8: parallels."""

import unittest

from asking import BEGIN, WIDE, ask, bar, last, move, note, parallels, part, player, sounds

BIG = 4294967295


def going(highs):
    """(start, length, high) of notes of one tick each; None is a pause of a tick."""
    return [(t, 1, high) for t, high in enumerate(highs) if high is not None]


def counted(notes, others, bars=(32,)):
    """How many parallels there are; the same is asked whichever of the two is named first."""
    calls = [BEGIN, *[bar(length) for length in bars], WIDE, WIDE, WIDE]
    calls += [note(0, *one) for one in notes] + [note(2, *one) for one in others]
    one, other = ask(*calls, parallels(0, 2), parallels(2, 0))[-2:]
    if one != other or len(one) != 1:
        raise AssertionError(f"parallels answered {one} and {other}")
    return one[0]


class Refused(unittest.TestCase):
    def setUp(self):
        self.two = [BEGIN, bar(4), WIDE, WIDE]

    def test_no_such_one_as_i(self):
        for i in (2, 3, 16, BIG):
            self.assertEqual(last(*self.two, parallels(i, 0)), [-2], i)

    def test_no_such_one_as_j(self):
        for j in (2, 3, 16, BIG):
            self.assertEqual(last(*self.two, parallels(0, j)), [-2], j)

    def test_neither(self):
        self.assertEqual(last(*self.two, parallels(2, 3)), [-2])
        self.assertEqual(last(*self.two, parallels(BIG, 2)), [-2])
        self.assertEqual(last(BEGIN, parallels(0, 1)), [-2])

    def test_one_and_the_same(self):
        self.assertEqual(last(*self.two, parallels(0, 0)), [-22])
        self.assertEqual(last(*self.two, parallels(1, 1)), [-22])

    def test_one_and_the_same_that_is_not_there(self):
        for i in (2, 16, BIG):
            self.assertEqual(last(*self.two, parallels(i, i)), [-2], i)
        self.assertEqual(last(BEGIN, parallels(0, 0)), [-2])

    def test_changes_nothing(self):
        calls = [BEGIN, bar(4), WIDE, WIDE] + [note(i, t, 1, 60 + 7 * i + t) for i in range(2) for t in range(4)]
        state = [part(0), part(1)] + [sounds(t) for t in range(4)]
        for call, want in ((parallels(0, 1), 3), (parallels(0, 0), -22), (parallels(0, 2), -2)):
            rows = ask(*calls, *state, call, *state)
            self.assertEqual(rows[-7], [want])
            self.assertEqual(rows[-6:], rows[-13:-7])


class HowFarApart(unittest.TestCase):
    def test_every_distance(self):
        for before in range(0, 50):
            for behind in range(0, 50):
                want = int(before % 12 in (0, 7) and behind % 12 in (0, 7))
                # The lower one goes far enough for the other to go the same way, whatever the distances are.
                self.assertEqual(counted(going([0, 60]), going([before, 60 + behind])), want, (before, behind))

    def test_whichever_is_higher(self):
        # 60 - 55 is 5 and 67 - 60 is 7; 60 - 53 is 7 and 65 - 60 is 5.
        self.assertEqual(counted(going([60, 62]), going([67, 69])), 1)
        self.assertEqual(counted(going([60, 62]), going([53, 55])), 1)
        self.assertEqual(counted(going([60, 62]), going([55, 57])), 0)
        self.assertEqual(counted(going([60, 62]), going([65, 67])), 0)

    def test_one_above_before_and_below_behind(self):
        self.assertEqual(counted(going([60, 81]), going([67, 74])), 1)
        self.assertEqual(counted(going([67, 74]), going([60, 81])), 1)
        self.assertEqual(counted(going([60, 79]), going([67, 74])), 0)

    def test_0(self):
        self.assertEqual(counted(going([60, 62]), going([60, 62])), 1)

    def test_0_before_and_7_behind(self):
        self.assertEqual(counted(going([60, 62]), going([60, 69])), 1)

    def test_7_before_and_0_behind(self):
        self.assertEqual(counted(going([60, 69]), going([67, 69])), 1)

    def test_as_it_sounds_not_as_it_is_written(self):
        calls = [BEGIN, bar(4), player(3, 0, 127), player(-5, 0, 127)]
        calls += [note(0, 0, 1, 60), note(0, 1, 1, 62), note(1, 0, 1, 67), note(1, 1, 1, 69)]
        self.assertEqual(last(*calls, parallels(0, 1)), [1])


class WhichWay(unittest.TestCase):
    def test_both_higher(self):
        self.assertEqual(counted(going([60, 61]), going([67, 68])), 1)
        self.assertEqual(counted(going([48, 60]), going([67, 67 + 12])), 1)

    def test_both_lower(self):
        self.assertEqual(counted(going([61, 60]), going([68, 67])), 1)
        self.assertEqual(counted(going([60, 48]), going([72, 55])), 1)

    def test_one_higher_and_one_lower(self):
        self.assertEqual(counted(going([60, 66]), going([72, 66])), 0)
        self.assertEqual(counted(going([60, 54]), going([60, 66])), 0)

    def test_one_that_stays(self):
        self.assertEqual(counted(going([60, 60]), going([60, 67])), 0)
        self.assertEqual(counted(going([60, 60]), going([67, 60])), 0)
        self.assertEqual(counted([(0, 2, 60)], going([60, 72])), 0)
        self.assertEqual(counted([(0, 2, 60)], going([72, 60])), 0)

    def test_both_stay(self):
        self.assertEqual(counted(going([60, 60]), going([67, 67])), 0)
        self.assertEqual(counted([(0, 8, 60)], [(0, 8, 67)]), 0)


class AtWhichTicks(unittest.TestCase):
    def test_none_without_notes(self):
        self.assertEqual(counted([], []), 0)
        self.assertEqual(counted([], [], ()), 0)
        self.assertEqual(counted(going([60, 62]), []), 0)
        self.assertEqual(counted(going([60]), going([67])), 0)

    def test_each_counts(self):
        self.assertEqual(counted(going([60, 62, 64, 62, 60, 60, 72]), going([67, 69, 71, 69, 67, 67, 79])), 5)

    def test_a_pause_of_one_tick(self):
        self.assertEqual(counted(going([60, None, 62]), going([67, None, 69])), 0)
        self.assertEqual(counted(going([60, None, 62]), [(0, 2, 67), (2, 1, 69)]), 0)
        self.assertEqual(counted([(0, 2, 60), (2, 1, 62)], [(0, 2, 67), (2, 1, 69)]), 1)

    def test_a_pause_before_and_behind(self):
        self.assertEqual(counted(going([None, 60, 62, None, 64]), going([None, 67, 69, None, 71])), 1)
        self.assertEqual(counted(going([60, 62, None, 64, 66]), going([67, 69, None, 71, 73])), 2)

    def test_long_notes_count_once(self):
        self.assertEqual(counted([(0, 5, 60), (5, 9, 62)], [(0, 5, 67), (5, 9, 69)]), 1)
        self.assertEqual(counted([(0, 5, 60), (5, 9, 62)], [(3, 2, 67), (5, 1, 69)]), 1)

    def test_not_at_the_same_tick(self):
        self.assertEqual(counted([(0, 5, 60), (5, 9, 62)], [(0, 4, 67), (4, 9, 69)]), 0)
        self.assertEqual(counted([(0, 5, 60), (5, 9, 62)], [(0, 6, 67), (6, 9, 69)]), 0)

    def test_with_and_without_a_bars_end_between(self):
        notes, others = [(1, 2, 60), (3, 2, 62)], [(1, 2, 67), (3, 2, 69)]
        self.assertEqual(counted(notes, others, (8,)), 1)
        self.assertEqual(counted(notes, others, (3, 5)), 1)
        self.assertEqual(counted(notes, others, (2, 2, 1)), 1)

    def test_no_bars_end_makes_one_where_a_note_goes_on(self):
        self.assertEqual(counted([(0, 8, 60)], [(0, 8, 67)], (4, 4)), 0)

    def test_up_to_the_last_tick(self):
        self.assertEqual(counted(going([60, 62]), going([67, 69]), (2,)), 1)
        self.assertEqual(counted(going([60, 62]), going([67, 69]), (1, 1)), 1)

    def test_as_many_as_there_may_be(self):
        notes = [(t, 1, 60 + t % 2) for t in range(256)]
        others = [(t, 1, 67 + t % 2) for t in range(256)]
        self.assertEqual(counted(notes, others, [64] * 4), 255)

    def test_others_do_not_matter(self):
        calls = [BEGIN, bar(4), WIDE, WIDE, WIDE] + [note(i, t, 1, 60 + i + t) for i in (0, 1) for t in range(4)]
        calls += [note(2, t, 1, 67 + t) for t in range(4)]
        self.assertEqual(ask(*calls, parallels(0, 1), parallels(0, 2), parallels(1, 2))[-3:], [[0], [3], [0]])


class WhenMoved(unittest.TestCase):
    def test_there_are_just_as_many(self):
        highs = ([60, 62, 69, 69, 57, None, 60, 61], [67, 69, 69, 81, 50, None, 72, 73])
        calls = [BEGIN, bar(5), bar(5), WIDE, WIDE]
        calls += [note(i, *one) for i in range(2) for one in going(highs[i])]
        want = last(*calls, parallels(0, 1))
        self.assertEqual(want, [3])
        for k in (-50, -12, -7, -1, 0, 1, 5, 7, 12, 46):
            self.assertEqual(ask(*calls, move(k), parallels(0, 1))[-2:], [[0], want], k)


if __name__ == "__main__":
    unittest.main()
