"""drop: a claim goes, those behind it have numbers one less."""

import unittest

from helper import again, ask, claim, desk_calls, drop, last, new_class, share, there, whole

TOP = 1000000


class Refusals(unittest.TestCase):
    def setUp(self):
        self.calls = desk_calls([(0, (1, 2, 3)), (1, ()), (2, (5,))], 100)

    def test_no_such_class(self):
        self.assertEqual(last(drop(0, 0)), [-2])
        for k in (3, 4, TOP):
            for i in (0, 1, TOP):
                self.assertEqual(last(*self.calls, drop(k, i)), [-2])

    def test_no_such_claim(self):
        for k, i in ((0, 3), (0, 4), (0, TOP), (1, 0), (1, 1), (2, 1), (2, 2)):
            self.assertEqual(last(*self.calls, drop(k, i)), [-2])

    def test_eight_claims_and_no_ninth(self):
        calls = desk_calls([(0, range(1, 9))], 1)
        self.assertEqual(last(*calls, drop(0, 8)), [-2])
        self.assertEqual(last(*calls, drop(0, 7)), [7])

    def test_no_such_claim_any_more(self):
        self.assertEqual(ask(*self.calls, drop(2, 0), drop(2, 0))[-2:], [[0], [-2]])
        self.assertEqual(ask(*self.calls, drop(0, 2), drop(0, 2), drop(0, 1), drop(0, 1))[-4:], [[2], [-2], [1], [-2]])

    def test_all_is_as_it_was_after_a_refusal(self):
        for refused in (drop(3, 0), drop(0, 3), drop(1, 0), drop(2, 1), drop(TOP, TOP)):
            before, number, after = ask(*self.calls, share(), refused, share())[-3:]
            self.assertEqual(number, [-2])
            self.assertEqual(before, after)
            self.assertEqual(last(*self.calls, refused, claim(0, 1, 1)), [3])
            self.assertEqual(last(*self.calls, refused, drop(0, 2)), [2])


class Drop(unittest.TestCase):
    def setUp(self):
        self.three = desk_calls([(1, (1, 2, 3))], 100)

    def test_the_first_a_middle_one_and_the_last(self):
        rows = {0: [1, 2, 2, 1, 3, 1], 1: [1, 2, 1, 1, 3, 1], 2: [1, 2, 1, 1, 2, 1]}
        for i, shares in rows.items():
            self.assertEqual(ask(*self.three, drop(0, i), share())[-2:], [[2], shares])

    def test_the_only_one(self):
        for rule in range(4):
            calls = [new_class(rule), claim(0, 5, 2), there(1, 1), drop(0, 0), share(), whole(), again(0, ())]
            self.assertEqual(ask(*calls)[-4:], [[0], [1, 0], [1, 0], [0]])
            self.assertEqual(last(*calls, claim(0, 2, 1)), [0])
            self.assertEqual(last(*calls, claim(0, 2, 1), share()), [1, 1, 1, 1])

    def test_one_after_another(self):
        given = ask(*self.three, drop(0, 0), drop(0, 0), share(), drop(0, 0), share())
        self.assertEqual(given[-5:], [[2], [1], [1, 1, 3, 1], [0], [1, 0]])
        given = ask(*self.three, drop(0, 1), drop(0, 1), share(), drop(0, 0), share())
        self.assertEqual(given[-5:], [[2], [1], [1, 1, 1, 1], [0], [1, 0]])

    def test_numbers_behind_it_as_again_sees_them(self):
        self.assertEqual(last(*self.three, drop(0, 0), again(0, (0,))), [1, 2, 1])
        self.assertEqual(last(*self.three, drop(0, 0), again(0, (1,))), [1, 3, 1])
        self.assertEqual(last(*self.three, drop(0, 1), again(0, (0, 1))), [2, 1, 1, 3, 1])
        self.assertEqual(last(*self.three, drop(0, 2), again(0, (0, 1))), [2, 1, 1, 2, 1])
        for i in range(3):
            self.assertEqual(last(*self.three, drop(0, i), again(0, (2,))), [-1])

    def test_numbers_behind_it_as_a_later_drop_sees_them(self):
        self.assertEqual(last(*self.three, drop(0, 0), drop(0, 1), share()), [1, 1, 2, 1])
        self.assertEqual(last(*self.three, drop(0, 1), drop(0, 0), share()), [1, 1, 3, 1])

    def test_a_new_claim_is_behind_the_others(self):
        given = ask(*self.three, drop(0, 0), claim(0, 9, 1), share())
        self.assertEqual(given[-3:], [[2], [2], [1, 3, 2, 1, 3, 1, 9, 1]])

    def test_of_two_like_claims_one_stays(self):
        calls = desk_calls([(0, (1, 2, 1))], 100)
        self.assertEqual(last(*calls, drop(0, 2), share()), [1, 2, 1, 1, 2, 1])
        self.assertEqual(last(*calls, drop(0, 0), share()), [1, 2, 2, 1, 1, 1])

    def test_a_full_class_takes_a_new_claim(self):
        full = desk_calls([(1, range(1, 9))], 100)
        for i in (0, 4, 7):
            given = ask(*full, claim(0, 9, 1), drop(0, i), claim(0, 9, 1), claim(0, 9, 1), share())
            self.assertEqual(given[-5:-1], [[-8], [7], [7], [-8]])
            left = [number for number in range(1, 10) if number != i + 1]
            self.assertEqual(given[-1], [1, 8, *[part for number in left for part in (number, 1)]])

    def test_other_classes_stay(self):
        calls = desk_calls([(0, (1, 2)), (0, (3, 4)), (0, (5, 6))], 100)
        given = ask(*calls, drop(1, 0), share())
        self.assertEqual(given[-2:], [[1], [3, 2, 1, 1, 2, 1, 1, 4, 1, 2, 5, 1, 6, 1]])

    def test_a_class_without_claims_keeps_its_number(self):
        calls = desk_calls([(0, (1,)), (0, (3,))], 100)
        self.assertEqual(last(*calls, drop(0, 0), share()), [2, 0, 1, 3, 1])
        self.assertEqual(last(*calls, drop(0, 0), drop(1, 0)), [0])
        self.assertEqual(last(*calls, drop(0, 0), new_class(0)), [2])

    def test_what_it_had_goes_to_the_others(self):
        for rule in range(4):
            calls = desk_calls([(rule, (1, 2)), (rule, (1, 3))], 3)
            self.assertEqual(last(*calls, share())[1:], [2, 1, 1, 2, 1, 2, 0, 1, 0, 1])
            self.assertEqual(last(*calls, drop(0, 0), drop(1, 0), share()), [2, 1, 2, 1, 1, 1, 1])

    def test_whole_after_the_one_that_is_not_whole_is_dropped(self):
        for i in range(3):
            claims = [2, 2, 2]
            claims[i] = "5/2"
            given = ask(*desk_calls([(0, (1,)), (1, claims)], 4), whole(), drop(1, i), whole())
            self.assertEqual(given[-3:], [[-6], [2], [2, 1, 1, 2, 2, 1]])


if __name__ == "__main__":
    unittest.main()
