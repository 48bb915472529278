import random
import unittest

from tests.helper import OTHER_KINDS, covers_of
from undocover.errors import BadBars, BadNumber, TooGreat
from undocover.ranks import all_covers, how_many
from undocover.strips import laying, layings, number_in, strip_table

# Each is no list of 1 to 8 lengths from 1 to 30.
WRONG_BARS = [
    [], [1] * 9, [2] * 100, [0], [-1], [31], [1, 0], [0, 1], [1, 31], [31, 1], [2, 3, -1], [10 ** 30], [1, 2, 10 ** 30],
    [True], [False], [1, True], [True, 2], (1,), (1, 2), "12", "1", b"12", b"\x01", {1: 1}, {1}, range(1, 3), 1, 3,
    [[1]], [(1,)], ["1"], [None], [1, None], [b"1"], [1, [2]], [1, {}],
    *OTHER_KINDS, *[[other] for other in OTHER_KINDS], *[[1, other] for other in OTHER_KINDS],
]
WRONG_PLACES = [*OTHER_KINDS, 301, 302, 1000, -2, -300, [5], (5,), "5", b"5", [0], 10 ** 30]


def layings_of(bars, places):
    """All layings by going through all lists, in their order; for short strips only."""
    if places == 0:
        return [[]]
    return [[bar, *rest] for bar, length in enumerate(bars) if length <= places
            for rest in layings_of(bars, places - length)]


def some_bars(chance, many, longest):
    return [chance.randint(1, longest) for bar in range(chance.randint(1, many))]


class Layings(unittest.TestCase):
    def right(self, bars, places):
        told = layings_of(bars, places)
        self.assertEqual(layings(bars, places), len(told))
        self.assertEqual([laying(bars, places, number) for number in range(len(told))], told)
        self.assertEqual([number_in(bars, places, some) for some in told], list(range(len(told))))
        for number in (-1, len(told), len(told) + 1):
            with self.assertRaises(BadNumber):
                laying(bars, places, number)

    def back(self, bars, places, number):
        some = laying(bars, places, number)
        self.assertEqual(sum(bars[bar] for bar in some), places)
        self.assertEqual(number_in(bars, places, some), number)

    def test_two_bars(self):
        self.assertEqual([layings([1, 2], places) for places in range(9)], [1, 1, 2, 3, 5, 8, 13, 21, 34])
        self.assertEqual([laying([1, 2], 4, number) for number in range(5)],
                         [[0, 0, 0, 0], [0, 0, 1], [0, 1, 0], [1, 0, 0], [1, 1]])
        self.assertEqual([laying([2, 1], 4, number) for number in range(5)],
                         [[0, 0], [0, 1, 1], [1, 0, 1], [1, 1, 0], [1, 1, 1, 1]])
        self.assertEqual(number_in([2, 1], 4, [1, 0, 1]), 2)

    def test_no_places(self):
        for bars in ([1], [30], [1, 2, 3], [30] * 8):
            self.assertEqual((layings(bars, 0), laying(bars, 0, 0), number_in(bars, 0, [])), (1, [], 0))
            self.right(bars, 0)

    def test_one_bar(self):
        for length in (1, 2, 7, 29, 30):
            for places in (1, 2, 7, 28, 29, 30, 31, 58, 60, 299, 300):
                told = int(places % length == 0)
                self.assertEqual(layings([length], places), told)
                if told:
                    self.assertEqual(laying([length], places, 0), [0] * (places // length))
                    self.assertEqual(number_in([length], places, [0] * (places // length)), 0)

    def test_alike_ones(self):
        self.assertEqual(layings([1, 1], 3), 8)
        self.assertEqual([laying([2, 2], 4, number) for number in range(4)], [[0, 0], [0, 1], [1, 0], [1, 1]])
        self.right([1, 1], 6)
        self.right([3, 2, 3], 9)
        self.right([1, 2, 1], 5)

    def test_eight_bars(self):
        self.assertEqual(layings([1] * 8, 4), 8 ** 4)
        self.assertEqual(laying([1] * 8, 4, 8 ** 4 - 1), [7, 7, 7, 7])
        self.assertEqual(laying([1] * 8, 4, 0o1234), [1, 2, 3, 4])
        self.assertEqual(number_in([1] * 8, 4, [0, 7, 6, 5]), 0o765)
        self.right([8, 7, 6, 5, 4, 3, 2, 1], 7)
        self.right([1, 2, 3, 4, 5, 6, 7, 8], 7)
        self.right([30, 29, 28, 1, 27, 26, 25, 24], 31)

    def test_what_can_not_be_laid(self):
        for bars, places in (([2], 1), ([30], 29), ([2], 299), ([4, 6], 3), ([2, 4, 6, 8], 151), ([30], 31),
                             ([29, 30], 28), ([30, 30], 299), ([7, 11], 10)):
            self.assertEqual(layings(bars, places), 0)
            for number in (0, 1, -1):
                with self.assertRaises(BadNumber):
                    laying(bars, places, number)
            for some in ([], [0], [0] * places):
                with self.assertRaises(BadBars):
                    number_in(bars, places, some)

    def test_bars_that_are_just_as_long_as_the_strip(self):
        self.assertEqual([laying([30, 15, 30], 30, number) for number in range(3)], [[0], [1, 1], [2]])
        self.right([5, 2, 3], 5)

    def test_strips_by_chance(self):
        chance = random.Random("strips")
        for turn in range(150):
            bars, places = some_bars(chance, 8, 7), chance.randint(0, 8)
            if layings(bars, places) < 1000:
                self.right(bars, places)

    def test_the_order_of_lists(self):
        chance = random.Random("order of lists")
        for turn in range(40):
            bars, places = some_bars(chance, 8, 30), chance.randint(100, 300)
            many = layings(bars, places)
            if many > 1:
                numbers = sorted({chance.randrange(many) for place in range(6)})
                told = [laying(bars, places, number) for number in numbers]
                self.assertEqual(told, sorted(told))
                self.assertEqual(len({tuple(some) for some in told}), len(numbers))

    def test_long_strips_with_very_many(self):
        """Each counted in another way, too."""
        self.assertEqual(layings([1] * 8, 300), 8 ** 300)
        self.assertEqual(layings([1, 1, 1], 300), 3 ** 300)
        low, high = 1, 1
        for place in range(299):
            low, high = high, low + high
        self.assertEqual(layings([1, 2], 300), high)
        self.assertEqual(layings([2, 4], 300), layings([1, 2], 150))
        self.assertEqual(layings([30, 30, 30], 300), 3 ** 10)

    def test_there_and_back_in_long_strips(self):
        chance = random.Random("long")
        for bars in ([1] * 8, [1, 2], [2, 1], [1, 2, 3, 4, 5, 6, 7, 8], [30, 29, 28, 27, 26, 25, 24, 23],
                     [3, 3, 5, 30, 1], [30, 1], [1, 30], [7, 11], [6, 10, 15]):
            for places in (298, 299, 300):
                many = layings(bars, places)
                self.assertGreater(many, 1)
                for number in (0, 1, many // 2, many // 3, many - 2, many - 1, chance.randrange(many)):
                    self.back(bars, places, number)

    def test_the_first_and_the_last_of_long_strips(self):
        many = layings([1, 2], 300)
        self.assertEqual(laying([1, 2], 300, 0), [0] * 300)
        self.assertEqual(laying([1, 2], 300, many - 1), [1] * 150)
        self.assertEqual(laying([1, 2], 299, layings([1, 2], 299) - 1), [1] * 149 + [0])
        self.assertEqual(laying([1] * 8, 300, 8 ** 300 - 1), [7] * 300)
        self.assertEqual(number_in([1] * 8, 300, [7] * 300), 8 ** 300 - 1)
        self.assertEqual(number_in([1] * 8, 300, [1] + [0] * 299), 8 ** 299)
        self.assertEqual(number_in([2, 1], 300, [1] * 300), many - 1)

    def test_numbers_are_numbers(self):
        for told in (layings([1], 0), layings([2], 1), layings([1], 1), layings([1, 2], 5), number_in([1], 1, [0]),
                     number_in([1, 1], 1, [1]), number_in([1], 0, [])):
            self.assertIs(told.__class__, int)
        self.assertEqual({bar.__class__ for bar in laying([1, 2], 5, 3)}, {int})
        self.assertIs(laying([1], 0, 0).__class__, list)

    def test_what_is_handed_in_stays(self):
        bars, some = [2, 1, 3], [0, 1, 2]
        number = number_in(bars, 6, some)
        laying(bars, 6, number).clear()
        self.assertEqual(laying(bars, 6, number), some)
        layings(bars, 6)
        self.assertEqual((bars, some), ([2, 1, 3], [0, 1, 2]))


class StripTables(unittest.TestCase):
    def test_place_by_place_and_bar_by_bar(self):
        self.assertEqual(strip_table([2, 1], 3), (3, 0, [
            [(0, 0), (1, 0)], [(0, 0)], [(1, 0), (2, 0)], [(1, 0)], [(2, 0)],
        ]))
        self.assertEqual(strip_table([1, 3, 2], 3), (3, 0, [
            [(0, 0)], [(0, 0), (1, 0), (2, 0)], [(0, 0), (1, 0)], [(1, 0)], [(1, 0), (2, 0)], [(2, 0)],
        ]))

    def test_alike_ones(self):
        self.assertEqual(strip_table([2, 2], 3), (3, 0, [
            [(0, 0), (1, 0)], [(0, 0), (1, 0)], [(1, 0), (2, 0)], [(1, 0), (2, 0)],
        ]))

    def test_bars_that_do_not_fit(self):
        self.assertEqual(strip_table([30], 5), (5, 0, []))
        self.assertEqual(strip_table([4, 3], 2), (2, 0, []))
        self.assertEqual(strip_table([5, 3], 3), (3, 0, [[(0, 0), (1, 0), (2, 0)]]))

    def test_one_place_and_ten(self):
        self.assertEqual(strip_table([1], 1), (1, 0, [[(0, 0)]]))
        self.assertEqual(strip_table([1], 10), (10, 0, [[(place, 0)] for place in range(10)]))
        self.assertEqual(strip_table([10], 10), (10, 0, [[(place, 0) for place in range(10)]]))

    def test_its_covers_are_the_layings(self):
        chance = random.Random("strip tables")
        cases = [(bars, places) for turn in range(200) for bars in [some_bars(chance, 4, 6)] for places in range(1, 11)]
        tried = 0
        for bars, places in cases:
            starts = [(place, bar) for place in range(places) for bar, length in enumerate(bars)
                      if place + length <= places]
            if len(starts) <= 16:
                table = strip_table(bars, places)
                told = [[starts[choice][1] for choice in cover] for cover in all_covers(table)]
                self.assertEqual(told, layings_of(bars, places))
                self.assertEqual(how_many(table), layings(bars, places))
                tried += 1
        self.assertGreater(tried, 500)

    def test_as_many_choices_as_there_may_be(self):
        for bars, places in (([1, 1], 8), ([1] * 8, 2), ([1] * 4, 4), ([1, 4], 9)):
            made = strip_table(bars, places)
            self.assertLessEqual(len(made[2]), 16)
            self.assertEqual(len(covers_of(made)), layings(bars, places))
        self.assertEqual([len(strip_table(bars, places)[2]) for bars, places in (
            ([1, 1], 8), ([1] * 8, 2), ([1] * 4, 4), ([1, 4], 9), ([1, 5], 10))], [16, 16, 16, 15, 16])

    def test_too_great(self):
        """No places, more than ten, more than sixteen choices."""
        for bars in ([1], [30], [2, 3], [1] * 8):
            for places in (0, 11, 12, 299, 300):
                with self.subTest(bars=bars, places=places), self.assertRaises(TooGreat):
                    strip_table(bars, places)
        for bars, places in (([1, 1], 9), ([1, 4], 10), ([1] * 6, 3), ([1, 1, 1, 1, 2], 4), ([1] * 8, 10),
                             ([2, 2], 10)):
            with self.subTest(bars=bars, places=places), self.assertRaises(TooGreat):
                strip_table(bars, places)

    def test_each_list_is_one_of_its_own(self):
        made = strip_table([2, 2], 3)
        made[2][0].append((2, 0))
        made[2].pop()
        self.assertEqual(made[2], [[(0, 0), (1, 0), (2, 0)], [(0, 0), (1, 0)], [(1, 0), (2, 0)]])
        self.assertEqual(len(strip_table([2, 2], 3)[2]), 4)

    def test_kinds(self):
        made = strip_table([1, 2], 3)
        self.assertEqual((made.__class__, made[2].__class__), (tuple, list))
        self.assertEqual({row.__class__ for row in made[2]}, {list})
        self.assertEqual({item.__class__ for row in made[2] for item in row}, {tuple})


class Refused(unittest.TestCase):
    def asked(self, bars, places):
        return [lambda: layings(bars, places), lambda: laying(bars, places, 0), lambda: number_in(bars, places, []),
                lambda: strip_table(bars, places), lambda: laying(bars, places, None),
                lambda: number_in(bars, places, None), lambda: number_in(bars, places, [99])]

    def refused(self, error, bars, places):
        for at, ask in enumerate(self.asked(bars, places)):
            with self.subTest(at, bars=bars, places=places), self.assertRaises(error):
                ask()

    def test_no_bars(self):
        for bars in WRONG_BARS:
            self.refused(BadBars, bars, 6)
            self.refused(BadBars, bars, 0)

    def test_no_count_of_places(self):
        for places in WRONG_PLACES:
            self.refused(BadNumber, [1, 2], places)

    def test_bars_ahead_of_places(self):
        for bars in ([], [0], None, [1] * 9, [True], (1,)):
            for places in (None, -1, 301, True, "1"):
                self.refused(BadBars, bars, places)

    def test_bars_and_places_just_within(self):
        self.assertEqual([layings(bars, 30) for bars in ([30], [1], [30] * 8)], [1, 1, 8])
        self.assertEqual([layings([1], places) for places in (0, 1, 299, 300)], [1, 1, 1, 1])

    def test_no_number_of_a_laying(self):
        for bars, places in (([1, 2], 4), ([1], 0), ([1], 1), ([2], 1), ([1] * 8, 300)):
            many = layings(bars, places)
            for number in (many, many + 1, -1, -many - 1, True, False, None, "0", b"0", [0], (0,), {}, [], 10 ** 500):
                with self.subTest(number=number), self.assertRaises(BadNumber):
                    laying(bars, places, number)
        for number in OTHER_KINDS:
            with self.subTest(number=number), self.assertRaises(BadNumber):
                laying([1, 2], 4, number)

    def not_laid(self, some, bars=(1, 2, 30), places=4):
        with self.subTest(some=some), self.assertRaises(BadBars):
            number_in(list(bars), places, some)

    def test_no_list_of_counts_of_bars(self):
        for some in (*OTHER_KINDS, (1, 1), "11", b"\x01\x01", {1: 1}, {0: 1, 1: 2}, range(2), iter([1, 1]), 1, 0):
            self.not_laid(some)
        for some in (None, (), "", b"", {}, 0, False, True, set(), range(0), iter([])):
            self.not_laid(some, places=0)
        for other in OTHER_KINDS:
            for some in ([other], [1, other], [other, 1], [1, 1, other], [other, 1, 1], [0, other, 0, 0]):
                self.not_laid(some)
        for some in ([True, True], [1, True], [False, False, 1], [0, 0, True]):
            self.not_laid(some)

    def test_counts_beyond(self):
        for some in ([3], [1, 3], [-2, -2], [1, -2], [1, 1, 3], [-3, 0, 1], [0, 0, 1, -10 ** 30], [10 ** 30]):
            self.not_laid(some)
        self.not_laid([1], (4,), 4)
        self.not_laid([-1], (4,), 4)

    def test_not_as_long(self):
        for some in ([], [0], [1], [0, 0, 0], [0, 1], [0, 0, 0, 0, 0], [1, 1, 0], [2], [0, 1, 2], [1, 1, 1]):
            self.not_laid(some)
        self.not_laid([0], (1,), 0)
        self.not_laid([0], (1,), 2)
        self.not_laid([0] * 301, (1,), 300)
        self.not_laid([0] * 299, (1,), 300)
        self.not_laid([0] * 10 ** 5, (1,), 300)

    def test_what_is_no_strip_goes_ahead_of_what_is_too_great(self):
        for bars, places, error in (([0], 0, BadBars), ([], 11, BadBars), ([1] * 9, 10, BadBars),
                                    ([1] * 9, 301, BadBars), ([1], 301, BadNumber), ([1] * 8, -1, BadNumber),
                                    ([1] * 8, False, BadNumber)):
            with self.subTest(bars=bars, places=places), self.assertRaises(error):
                strip_table(bars, places)


if __name__ == "__main__":
    unittest.main()
