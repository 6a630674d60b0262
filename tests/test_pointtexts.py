import random
import unittest

from halveline.errors import LineError, NoText
from halveline.pointtexts import read_heap, read_line, read_point, write_heap, write_line
from things import BIG, drawn_heap, grid, odd_things, small_heaps

READERS = (read_point, read_heap, read_line)
# Figures of other scripts, and others that Python's int reads as 1.
FOREIGN = ["\u0661", "\u0967", "\uff11", "\U0001d7cf", "\u06f1"]


class Written(unittest.TestCase):
    def test_heaps(self):
        self.assertEqual(write_heap([]), "")
        self.assertEqual(write_heap([(1, 2)]), "1,2")
        self.assertEqual(write_heap([(-1, 0), (10, -20)]), "-1,0 10,-20")
        self.assertEqual(write_heap([(3, 1), (0, 0), (3, 1), (-5, 5)]), "3,1 0,0 3,1 -5,5")
        self.assertEqual(write_heap([(BIG, -BIG)]), "9" * 30 + ",-" + "9" * 30)

    def test_lines(self):
        self.assertEqual(write_line((1, -2, 3)), "1 -2 3")
        self.assertEqual(write_line((0, 1, 0)), "0 1 0")
        self.assertEqual(write_line((1, 0, -7)), "1 0 -7")
        self.assertEqual(write_line((BIG, 1 - BIG, 10 ** 60)), f"{BIG} -{BIG - 1} 1{'0' * 60}")


class ReadAgain(unittest.TestCase):
    def test_points(self):
        for point in grid(3) + [(BIG, -BIG), (-BIG, 0), (10, 100), (-10, 1000)]:
            told = read_point(f"{point[0]},{point[1]}")
            self.assertEqual(told, point)
            self.assertEqual([type(part) for part in (told, *told)], [tuple, int, int])

    def test_heaps(self):
        draw = random.Random(7)
        drawn = [drawn_heap(draw, many, reach) for many in range(9) for reach in (1, 100, BIG)]
        for heap in small_heaps() + drawn:
            with self.subTest(heap=heap):
                before = list(heap)
                told = read_heap(write_heap(heap))
                self.assertEqual(told, before)
                self.assertEqual(heap, before)
                self.assertIs(type(told), list)

    def test_lines(self):
        for line in [(1, -2, 3), (0, 1, 0), (0, 1, -9), (1, 0, 0), (7, 5, 10 ** 91), (BIG, 1 - BIG, -(10 ** 60))]:
            self.assertEqual(read_line(write_line(line)), line)
            self.assertIs(type(read_line(write_line(line))), tuple)

    def test_lines_of_two_hundred_figures(self):
        line = (10 ** 199, 10 ** 199 - 1, -(10 ** 199))
        self.assertEqual(read_line(write_line(line)), line)

    def test_the_text_without_signs_is_a_heap_alone(self):
        self.assertEqual(read_heap(""), [])
        for reader in (read_point, read_line):
            with self.assertRaises(NoText):
                reader("")

    def test_each_list_is_new(self):
        for text in ("", "1,2", "1,2 3,4"):
            told = read_heap(text)
            self.assertIsNot(read_heap(text), told)
            many = len(told)
            told.append((9, 9))
            self.assertEqual(len(read_heap(text)), many)


class Refused(unittest.TestCase):
    def check(self, text, *readers):
        for reader in readers:
            with self.subTest(text=text, reader=reader.__name__):
                with self.assertRaises(NoText):
                    reader(text)

    def test_blanks_and_commas(self):
        points = [
            " 1,2", "1,2 ", "1 ,2", "1, 2", "1,,2", ",1,2", "1,2,", "1,2,3", "1", "1,", ",2", ",", ",,", "1;2",
            "1 2", "1.2", "1,2.0", "1e1,2", "(1,2)", "x,y", "1,y", "1,-", "-,1", "--1,2", "1,2-", "1-,2",
        ]
        for text in points:
            self.check(text, read_point, read_heap, read_line)
        for text in (" ", "  ", "1,2  3,4", "1,2 3,4 ", " 1,2 3,4", "1,2 3", "1,23,4", "1,2, 3,4", "1,2 ,3,4",
                     "1,2;3,4", "1,2\t3,4", "1,2\n3,4", "1,2 3,4,5", "1,2 - 3,4"):
            self.check(text, *READERS)
        for text in (" 1 -2 3", "1 -2 3 ", "1  -2 3", "1 -2  3", "1 -23", "1-2 3", "1 - 2 3", "1,-2,3", "1 -2",
                     "1 -2 3 4", "1 -2,3", "1, -2, 3", "1\t-2 3", "(1 -2 3)", "1 -2 3.0", "a b c"):
            self.check(text, *READERS)

    def test_a_heap_is_no_point_and_a_point_no_line(self):
        self.check("1,2 3,4", read_point, read_line)
        self.check("1,2", read_line)
        self.check("1 -2 3", read_point, read_heap)

    def wrong_numbers(self):
        wrongs = ["+1", "-0", "+0", "00", "01", "-01", "007", "1_0", "_1", "1_", "0x1", "0b1", "1L", "1.", "1e0"]
        wrongs += [f"{sign}{figure}" for sign in ("", "-") for figure in FOREIGN]
        wrongs += [f"1{figure}" for figure in FOREIGN] + ["\u00b2", "\u2460", "\u22121", "\ud800", "\x00", "1\x00"]
        for space in ("\n", "\r", "\r\n", "\t", "\v", "\f", "\x1c", "\x85", "\xa0", "\u2003", "\u2028", "\u3000"):
            wrongs += ["1" + space, space + "1"]
        return wrongs

    def test_numbers_that_are_written_otherwise(self):
        for wrong in self.wrong_numbers():
            for text in (f"{wrong},2", f"2,{wrong}"):
                self.check(text, read_point, read_heap)
            for text in (f"3,4 {wrong},2", f"2,{wrong} 3,4", f"3,4 2,{wrong}", f"{wrong},2 3,4"):
                self.check(text, read_heap)
            for text in (f"{wrong} 2 3", f"1 {wrong} 3", f"1 2 {wrong}"):
                self.check(text, read_line)

    def test_thirty_one_figures_in_a_point(self):
        for number in (BIG + 1, -BIG - 1, 10 ** 31, -(10 ** 199)):
            for text in (f"{number},0", f"0,{number}", f"{number},{number}"):
                self.check(text, read_point, read_heap)
                self.check(f"1,1 {text}", read_heap)
        self.assertEqual(read_point(f"{BIG},{-BIG}"), (BIG, -BIG))
        self.assertEqual(read_line(f"1 {BIG + 1} {-BIG - 1}"), (1, BIG + 1, -BIG - 1))

    def test_more_figures_than_python_reads(self):
        self.check("1" * 6000 + ",1", read_point, read_heap)
        self.check("1 1 " + "1" * 6000, read_line)

    def test_three_numbers_that_are_no_line(self):
        for text in ("0 0 0", "0 0 1", "-1 0 0", "-1 2 3", "0 -1 0", "0 2 0", "2 0 0", "2 4 6", "2 -4 1", "6 9 1"):
            self.check(text, read_line)

    def test_things_that_are_no_texts(self):
        others = [(1, 2), [(1, 2)], [], (1, -2, 3), b"1,2", b"1 -2 3", ["1,2"], ("1,2",), bytearray(b"1,2")]
        for thing in odd_things() + others:
            if not isinstance(thing, str):
                self.check(thing, *READERS)

    def test_it_is_a_line_error(self):
        for reader in READERS:
            with self.assertRaises(LineError):
                reader("nothing so")


class Names(unittest.TestCase):
    def test_arguments_by_name(self):
        self.assertEqual(write_heap(heap=[(1, 2)]), "1,2")
        self.assertEqual(write_line(line=(1, -2, 3)), "1 -2 3")
        self.assertEqual(read_point(text="1,2"), (1, 2))
        self.assertEqual(read_heap(text="1,2 3,4"), [(1, 2), (3, 4)])
        self.assertEqual(read_line(text="1 -2 3"), (1, -2, 3))


if __name__ == "__main__":
    unittest.main()
