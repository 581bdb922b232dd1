"""Call 16, regions. The answers are worked out by hand from the document."""

import unittest

from gridwave.both import regions
from words import Numbers, PictureTests, regions_by_words, side_by_side

GREAT = 2 ** 64 - 1


def drawn(*rows):
    """A picture of rows of signs: # is 255, a point 0."""
    return [{"#": 255, ".": 0}[sign] for row in rows for sign in row]


def told(*rows):
    """The numbers of rows of signs: a digit itself, a point 0."""
    return [0 if sign == "." else int(sign) for row in rows for sign in row]


class Ordinary(unittest.TestCase):
    def check(self, picture, answer):
        """The picture's answer, one for all t above 0, since it has no other bytes than 0 and 255."""
        w, h = len(picture[0]), len(picture)
        expected = told(*answer)
        expected = [max(expected)] + expected
        for t in (1, 128, 255):
            self.assertEqual(regions(w, h, t, drawn(*picture)), expected)

    def test_wider_than_high(self):
        self.check(("##..#.",
                    ".#.###",
                    "#....#"), ("11..2.",
                                ".1.222",
                                "3....2"))

    def test_higher_than_wide(self):
        self.check(("#.#",
                    "#..",
                    "..#",
                    ".##",
                    "#.."), ("1.2",
                             "1..",
                             "..3",
                             ".33",
                             "4.."))

    def test_one_row(self):
        self.check(("##.#..###",), ("11.2..333",))
        self.check((".#.",), (".1.",))

    def test_one_column(self):
        self.check(tuple("##.#..###"), tuple("11.2..333"))
        self.check(tuple(".#."), tuple(".1."))

    def test_one_cell(self):
        self.assertEqual(regions(1, 1, 5, [5]), [1, 1])
        self.assertEqual(regions(1, 1, 5, [4]), [0, 0])

    def test_no_cells(self):
        for w, h in ((0, 0), (0, 1), (1, 0), (0, 64), (64, 0)):
            for t in (0, 1, 255):
                self.assertEqual(regions(w, h, t, []), [0])

    def test_a_corner_joins_nothing(self):
        self.check(("#.",
                    ".#"), ("1.",
                            ".2"))
        self.check((".#",
                    "#."), (".1",
                            "2."))
        self.check(("#.#",
                    ".#.",
                    "#.#"), ("1.2",
                             ".3.",
                             "4.5"))
        self.check(("##..",
                    "##..",
                    "..##",
                    "..##"), ("11..",
                              "11..",
                              "..22",
                              "..22"))

    def test_a_row_is_not_joined_to_the_next(self):
        # the last of a row and the first of the next are not side by side
        self.check(("..#",
                    "#.."), ("..1",
                             "2.."))
        self.check((".##",
                    "##.",
                    "..#",
                    "#.."), (".11",
                             "11.",
                             "..2",
                             "3.."))
        # nor are the ends of one row, or of one column
        self.check(("#.#",), ("1.2",))
        self.check(("#", ".", "#"), ("1", ".", "2"))


class LateTogether(unittest.TestCase):
    check = Ordinary.check

    def test_to_the_four_sides(self):
        # a plus, and what begins to the right of where it goes on to the left
        self.check((".#.",
                    "###",
                    ".#."), (".1.",
                             "111",
                             ".1."))
        self.check(("...#",
                    "####"), ("...1",
                              "1111"))
        self.check(("#...",
                    "####"), ("1...",
                              "1111"))

    def test_open_above(self):
        self.check(("#.#",
                    "#.#",
                    "###"), ("1.1",
                             "1.1",
                             "111"))

    def test_open_below(self):
        self.check(("###",
                    "#.#",
                    "#.#"), ("111",
                             "1.1",
                             "1.1"))

    def test_open_to_the_sides(self):
        self.check(("###",
                    "#..",
                    "###"), ("111",
                             "1..",
                             "111"))
        self.check(("###",
                    "..#",
                    "###"), ("111",
                             "..1",
                             "111"))

    def test_combs(self):
        self.check(("#.#.#.#",
                    "#.#.#.#",
                    "#######"), ("1.1.1.1",
                                 "1.1.1.1",
                                 "1111111"))
        self.check(("#######",
                    "#.#.#.#",
                    "#.#.#.#"), ("1111111",
                                 "1.1.1.1",
                                 "1.1.1.1"))

    def test_two_combs(self):
        # one within the other, and one below the other
        self.check(("#########",
                    "#...#...#",
                    "#.#.#.#.#",
                    "..#...#..",
                    "#########"), ("111111111",
                                   "1...1...1",
                                   "1.2.1.2.1",
                                   "..2...2..",
                                   "222222222"))
        self.check(("#.#.#.",
                    "#.#.#.",
                    "#####.",
                    "......",
                    "#.#.#.",
                    "#####."), ("1.1.1.",
                                "1.1.1.",
                                "11111.",
                                "......",
                                "2.2.2.",
                                "22222."))

    def test_the_numbers_go_on_without_a_gap(self):
        # what begins apart and comes together late uses up one number alone
        self.check(("#.#.#",
                    "###.#"), ("1.1.2",
                               "111.2"))
        self.check(("#.#.#",
                    "#...#",
                    "#####"), ("1.2.1",
                               "1...1",
                               "11111"))
        self.check(("..#.#",
                    "#.###",
                    "#....",
                    "###.#"), ("..1.1",
                               "2.111",
                               "2....",
                               "222.3"))

    def test_spirals(self):
        self.check(("#####",
                    "....#",
                    "###.#",
                    "#...#",
                    "#####"), ("11111",
                               "....1",
                               "111.1",
                               "1...1",
                               "11111"))
        self.check((".....",
                    "####.",
                    "...#.",
                    ".###.",
                    "....."), (".....",
                               "1111.",
                               "...1.",
                               ".111.",
                               "....."))
        # one within the other
        self.check(("########",
                    ".......#",
                    "######.#",
                    "#....#.#",
                    "#.##.#.#",
                    "#.#..#.#",
                    "#.####.#",
                    "#......#"), ("11111111",
                                  ".......1",
                                  "222222.1",
                                  "2....2.1",
                                  "2.22.2.1",
                                  "2.2..2.1",
                                  "2.2222.1",
                                  "2......1"))

    def test_a_ring_and_what_lies_in_it(self):
        self.check(("#####",
                    "#...#",
                    "#.#.#",
                    "#...#",
                    "#####"), ("11111",
                               "1...1",
                               "1.2.1",
                               "1...1",
                               "11111"))


class Levels(unittest.TestCase):
    PICTURE = [0, 1, 2,
               254, 255, 3,
               1, 0, 254]

    def test_each(self):
        # all; without both 0s
        self.assertEqual(regions(3, 3, 0, self.PICTURE), [1] + [1] * 9)
        self.assertEqual(regions(3, 3, 1, self.PICTURE), [1, 0, 1, 1, 1, 1, 1, 1, 0, 1])
        # 2 3 254 and 254 255 are beside one another
        self.assertEqual(regions(3, 3, 2, self.PICTURE), [1, 0, 0, 1, 1, 1, 1, 0, 0, 1])
        self.assertEqual(regions(3, 3, 3, self.PICTURE), [1, 0, 0, 0, 1, 1, 1, 0, 0, 1])
        self.assertEqual(regions(3, 3, 4, self.PICTURE), [2, 0, 0, 0, 1, 1, 0, 0, 0, 2])
        self.assertEqual(regions(3, 3, 254, self.PICTURE), [2, 0, 0, 0, 1, 1, 0, 0, 0, 2])
        self.assertEqual(regions(3, 3, 255, self.PICTURE), [1, 0, 0, 0, 0, 1, 0, 0, 0, 0])

    def test_none(self):
        self.assertEqual(regions(3, 2, 1, [0] * 6), [0] * 7)
        self.assertEqual(regions(3, 2, 255, [254] * 6), [0] * 7)
        self.assertEqual(regions(64, 64, 9, [8] * 4096), [0] * 4097)

    def test_all(self):
        for t, byte in ((0, 0), (0, 255), (1, 1), (8, 8), (255, 255)):
            self.assertEqual(regions(3, 2, t, [byte] * 6), [1] + [1] * 6)
            self.assertEqual(regions(2, 3, t, [byte] * 6), [1] + [1] * 6)

    def test_it_matters_only_whether_they_are_at_least_t(self):
        self.assertEqual(regions(5, 1, 5, [5, 200, 4, 6, 255]), [2, 1, 1, 0, 2, 2])


class TheGreatest(unittest.TestCase):
    def test_one_region(self):
        self.assertEqual(regions(64, 64, 7, [7] * 4096), [1] * 4097)
        self.assertEqual(regions(64, 1, 7, [7] * 64), [1] * 65)
        self.assertEqual(regions(1, 64, 7, [7] * 64), [1] * 65)

    def winding(self):
        """Every other row whole, between them one cell by turns at the right and at the left end."""
        rows = []
        for pair in range(32):
            rows.append([9] * 64)
            rows.append([0] * 63 + [9] if pair % 2 == 0 else [9] + [0] * 63)
        return rows

    def exchanged(self, rows):
        return [[row[a] for row in rows] for a in range(len(rows[0]))]

    def ask(self, rows):
        return regions(64, 64, 5, [byte for row in rows for byte in row])

    def test_a_long_winding_way(self):
        rows = self.winding()
        for way in (rows, rows[::-1], self.exchanged(rows), self.exchanged(rows)[::-1]):
            self.assertEqual(self.ask(way), [1] + [1 if byte else 0 for row in way for byte in row])

    def test_a_long_winding_way_that_is_cut(self):
        rows = self.winding()
        rows[31][0] = 4
        first = [1 if byte == 9 else 0 for row in rows[:31] for byte in row]
        second = [2 if byte == 9 else 0 for row in rows[31:] for byte in row]
        self.assertEqual(self.ask(rows), [2] + first + second)

    def spiral(self):
        """From a corner inwards, a cell free between its turns, and how many cells it has."""
        rows = [[0] * 64 for _ in range(64)]
        x, y, dx, dy = 0, 0, 1, 0
        rows[0][0] = 9
        length = 1

        def taken(a, b):
            return 0 <= a < 64 and 0 <= b < 64 and rows[b][a] == 9

        def goes_on():
            a, b = x + dx, y + dy
            beside = [taken(a + 1, b), taken(a - 1, b), taken(a, b + 1), taken(a, b - 1)]
            return 0 <= a < 64 and 0 <= b < 64 and not taken(a, b) and sum(beside) == 1

        while True:
            if not goes_on():
                dx, dy = -dy, dx
            if not goes_on():
                return rows, length
            x, y = x + dx, y + dy
            rows[y][x] = 9
            length += 1

    def test_a_long_spiral(self):
        rows, length = self.spiral()
        self.assertGreater(length, 2000)
        for way in (rows, rows[::-1], [row[::-1] for row in rows]):
            self.assertEqual(self.ask(way), [1] + [1 if byte else 0 for row in way for byte in row])

    def test_combs(self):
        teeth = [[9, 0] * 32 for _ in range(63)]
        for rows in (teeth + [[9] * 64], [[9] * 64] + teeth):
            for way in (rows, self.exchanged(rows)):
                self.assertEqual(self.ask(way), [1] + [1 if byte else 0 for row in way for byte in row])
        # without what joins them each tooth is by itself
        self.assertEqual(self.ask(teeth + [[9, 0] * 32]), [32] + [k // 2 + 1 if k % 2 == 0 else 0 for k in range(64)] * 64)

    def test_a_board(self):
        for first in (0, 1):
            picture = [200 if (x + y) % 2 == first else 100 for y in range(64) for x in range(64)]
            expected = []
            for byte in picture:
                expected.append(0 if byte == 100 else len([number for number in expected if number]) + 1)
            self.assertEqual(regions(64, 64, 101, picture), [2048] + expected)
            self.assertEqual(max(expected), 2048)
            self.assertEqual(regions(64, 64, 100, picture), [1] * 4097)
        self.assertEqual(regions(64, 64, 101, picture)[1:7], [0, 1, 0, 2, 0, 3])
        self.assertEqual(regions(64, 64, 101, picture)[65:71], [33, 0, 34, 0, 35, 0])


class Promise(unittest.TestCase):
    def ways(self, w, h, t, picture):
        """For each place the places that a way over sides of cells at least t leads to."""
        beside = {place: set() for place in range(w * h)}
        for a, b in side_by_side(w, h, t, picture):
            beside[a].add(b)
            beside[b].add(a)
        reached = {}
        for place in range(w * h):
            seen, edge = {place}, {place}
            while edge:
                edge = set().union(*(beside[one] for one in edge)) - seen
                seen |= edge
            reached[place] = seen
        return reached

    def test_one_number_just_if_a_way_joins_them(self):
        numbers = Numbers(50)
        for turn in range(80):
            w, h = 1 + numbers.below(8), 1 + numbers.below(8)
            t = (1, 2, 128, 255)[numbers.below(4)]
            picture = numbers.picture(w, h)
            with self.subTest(w=w, h=h, t=t, picture=picture):
                answer = regions(w, h, t, picture)[1:]
                reached = self.ways(w, h, t, picture)
                inside = [place for place in range(w * h) if picture[place] >= t]
                for a in range(w * h):
                    self.assertEqual(answer[a] > 0, a in inside)
                for a in inside:
                    for b in inside:
                        self.assertEqual(answer[a] == answer[b], b in reached[a])

    def test_numbered_by_their_first_cells(self):
        numbers = Numbers(51)
        for turn in range(80):
            w, h = numbers.below(10), numbers.below(10)
            t = (0, 1, 3, 128, 255)[numbers.below(5)]
            answer = regions(w, h, t, numbers.picture(w, h))
            firsts = []
            for number in answer[1:]:
                if number and number not in firsts:
                    firsts.append(number)
            self.assertEqual(firsts, list(range(1, answer[0] + 1)))


class Refusals(unittest.TestCase):
    def test_level(self):
        self.assertEqual(regions(2, 1, 255, [254, 255]), [1, 0, 1])
        for t in (256, 257, GREAT):
            self.assertEqual(regions(2, 1, t, [254, 255]), [-1])
            self.assertEqual(regions(0, 0, t, []), [-1])


class Pictures(PictureTests, unittest.TestCase):
    def call(self, w, h, x):
        return regions(w, h, 5, x)


class PicturesOfLevelNought(PictureTests, unittest.TestCase):
    def call(self, w, h, x):
        return regions(w, h, 0, x)


class ByTheWords(unittest.TestCase):
    def test_many(self):
        numbers = Numbers(52)
        for turn in range(300):
            w, h = numbers.below(10), numbers.below(10)
            t = (0, 1, 2, 128, 129, 255)[numbers.below(6)]
            picture = numbers.picture(w, h)
            with self.subTest(w=w, h=h, t=t, picture=picture):
                self.assertEqual(regions(w, h, t, picture), regions_by_words(w, h, t, picture))

    def test_great_ones(self):
        numbers = Numbers(53)
        for share in (90, 150, 170):
            picture = [numbers.below(256) for _ in range(4096)]
            self.assertEqual(regions(64, 64, 256 - share, picture), regions_by_words(64, 64, 256 - share, picture))


if __name__ == "__main__":
    unittest.main()
