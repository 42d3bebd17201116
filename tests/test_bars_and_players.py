"""Point 1: begin, bar, player, and -2 for a player that isn't there."""

import unittest

from asking import BEGIN, WIDE, ask, bar, drop, last, note, part, player

BIG = 4294967295


class Begin(unittest.TestCase):
    def test_answers_0(self):
        self.assertEqual(ask(BEGIN), [[0]])

    def test_there_is_nothing_at_first(self):
        self.assertEqual(ask(BEGIN, part(0), bar(4), WIDE), [[0], [-2], [0], [0]])

    def test_again_answers_0(self):
        self.assertEqual(ask(BEGIN, BEGIN, BEGIN), [[0], [0], [0]])

    def test_again_takes_bars_away(self):
        self.assertEqual(last(BEGIN, bar(4), bar(4), BEGIN, WIDE, part(0)), [0])
        self.assertEqual(last(BEGIN, bar(4), bar(4), BEGIN, WIDE, note(0, 0, 1, 60)), [-22])
        self.assertEqual(last(BEGIN, bar(4), bar(4), BEGIN, bar(5)), [0])

    def test_again_takes_players_and_their_notes_away(self):
        before = [BEGIN, bar(4), WIDE, WIDE, note(0, 0, 4, 60), BEGIN]
        self.assertEqual(last(*before, part(0)), [-2])
        self.assertEqual(last(*before, player(1, 2, 3)), [0])
        self.assertEqual(last(*before, bar(4), WIDE, part(0)), [0, 255, 1])

    def test_again_makes_room(self):
        full = [BEGIN] + [bar(1)] * 64 + [WIDE] * 16
        self.assertEqual(last(*full, BEGIN, bar(1)), [0])
        self.assertEqual(last(*full, BEGIN, WIDE), [0])


class Bar(unittest.TestCase):
    def test_numbers_go_up_from_0(self):
        self.assertEqual(ask(BEGIN, bar(4), bar(3), bar(12)), [[0], [0], [1], [2]])

    def test_both_ends_of_the_length(self):
        self.assertEqual(ask(BEGIN, bar(1), bar(64)), [[0], [0], [1]])

    def test_beyond_both_ends(self):
        for length in (0, 65, 66, 128, 2 ** 31, BIG):
            self.assertEqual(last(BEGIN, bar(length)), [-22], length)

    def test_a_refused_one_is_not_there(self):
        self.assertEqual(ask(BEGIN, bar(0), bar(65), bar(7)), [[0], [-22], [-22], [0]])
        self.assertEqual(last(BEGIN, bar(65), WIDE, bar(2), part(0)), [0, 255, 1])

    def test_the_most_there_may_be(self):
        rows = ask(BEGIN, *[bar(2)] * 66)
        self.assertEqual(rows[1:65], [[k] for k in range(64)])
        self.assertEqual(rows[65:], [[-28], [-28]])

    def test_one_beyond_the_most_changes_nothing(self):
        full = [BEGIN, WIDE] + [bar(2)] * 64 + [bar(2)]
        self.assertEqual(last(*full, part(0)), [0, 255, 64])
        self.assertEqual(last(*full, note(0, 128, 1, 60)), [-22])

    def test_a_wrong_length_comes_first(self):
        full = [BEGIN] + [bar(2)] * 64
        self.assertEqual(last(*full, bar(0)), [-22])
        self.assertEqual(last(*full, bar(65)), [-22])
        self.assertEqual(last(*full, bar(64)), [-28])

    def test_a_new_one_is_the_last(self):
        self.assertEqual(last(BEGIN, WIDE, bar(2), bar(5), note(0, 2, 5, 60), part(0)), [0, 255, 1, 84, 5])

    def test_may_come_behind_notes(self):
        self.assertEqual(last(BEGIN, bar(2), WIDE, note(0, 0, 2, 60), bar(3), part(0)), [0, 84, 2, 255, 1])


class Player(unittest.TestCase):
    def test_numbers_go_up_from_0(self):
        self.assertEqual(ask(BEGIN, player(2, 50, 90), player(-12, 20, 60), WIDE), [[0], [0], [1], [2]])

    def test_both_ends_of_the_shift(self):
        self.assertEqual(ask(BEGIN, player(-24, 0, 9), player(24, 0, 9)), [[0], [0], [1]])

    def test_beyond_both_ends_of_the_shift(self):
        for shift in (-25, 25, -48, 48, -2147483648, 2147483647):
            self.assertEqual(last(BEGIN, player(shift, 0, 127)), [-22], shift)

    def test_both_ends_of_the_range(self):
        for low, top in ((0, 127), (0, 0), (127, 127), (64, 64), (63, 64)):
            self.assertEqual(last(BEGIN, player(0, low, top)), [0], (low, top))

    def test_beyond_the_ends_of_the_range(self):
        for low, top in ((0, 128), (128, 128), (1, 0), (65, 64), (127, 126), (0, BIG), (BIG, 0), (BIG, BIG)):
            self.assertEqual(last(BEGIN, player(0, low, top)), [-22], (low, top))

    def test_a_refused_one_is_not_there(self):
        self.assertEqual(ask(BEGIN, player(25, 0, 1), part(0), WIDE), [[0], [-22], [-2], [0]])

    def test_the_most_there_may_be(self):
        rows = ask(BEGIN, *[WIDE] * 18)
        self.assertEqual(rows[1:17], [[k] for k in range(16)])
        self.assertEqual(rows[17:], [[-28], [-28]])

    def test_one_beyond_the_most_changes_nothing(self):
        self.assertEqual(ask(BEGIN, *[WIDE] * 17, part(15), part(16))[-2:], [[0], [-2]])

    def test_a_wrong_number_comes_first(self):
        full = [BEGIN] + [WIDE] * 16
        for wrong in (player(25, 0, 1), player(-25, 0, 1), player(0, 2, 1), player(0, 0, 128)):
            self.assertEqual(last(*full, wrong), [-22], wrong)

    def test_a_new_one_has_no_notes(self):
        rows = ask(BEGIN, bar(4), WIDE, note(0, 0, 4, 60), WIDE, part(1), note(1, 0, 4, 60))
        self.assertEqual(rows[-2:], [[0, 255, 1], [1]])


class NoSuchPlayer(unittest.TestCase):
    def test_none_at_all(self):
        for call in (note(0, 0, 1, 60), drop(0, 0), part(0)):
            self.assertEqual(last(BEGIN, call), [-2], call)
            self.assertEqual(last(BEGIN, bar(4), call), [-2], call)

    def test_one_beyond_the_last(self):
        two = [BEGIN, bar(4), WIDE, WIDE, note(0, 0, 1, 60), note(1, 0, 1, 60)]
        for i in (2, 3, 16, 2 ** 31, BIG):
            for call in (note(i, 1, 1, 60), drop(i, 0), part(i)):
                self.assertEqual(last(*two, call), [-2], call)

    def test_the_last_is_there(self):
        two = [BEGIN, bar(4), WIDE, WIDE, note(1, 0, 1, 60)]
        self.assertEqual(ask(*two, note(1, 1, 1, 60), drop(1, 0), part(1))[-3:], [[2], [1], [0, 254, 1, 84, 1, 254, 2]])

    def test_comes_first_in_note(self):
        one = [BEGIN, bar(4), player(0, 50, 70), note(0, 0, 1, 60)]
        for call in (note(1, 1, 0, 60), note(1, 4, 1, 60), note(1, 1, 1, 71), note(1, 0, 1, 60), note(1, 9, 0, 99)):
            self.assertEqual(last(*one, call), [-2], call)


if __name__ == "__main__":
    unittest.main()
