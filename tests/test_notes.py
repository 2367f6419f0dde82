import unittest

from cuelight.errors import BadNet, BadText
from cuelight.nets import Net
from cuelight.notes import read, written
from tests.helpers import MOST, made_net, refused


def parts(net):
    return net.needs(), net.sources(), net.lines()


class Written(unittest.TestCase):
    def test_each_kind_of_row(self):
        net = Net([4, 0, MOST], [1], [(2, 0, 5), (1, 2, 0)])
        self.assertEqual(written(net), "place 4\nsource 0\nplace 1000000\nline 2 0 5\nline 1 2 0")

    def test_edges(self):
        self.assertEqual(written(Net([0], [], [])), "place 0")
        self.assertEqual(written(Net([7], [0], [])), "source 7")
        self.assertEqual(written(Net([1, 2], [], [(0, 1, MOST)])), "place 1\nplace 2\nline 0 1 1000000")

    def test_sources_that_were_handed_in_not_rising(self):
        net = Net([1, 2, 3], [2, 0], [])
        self.assertEqual(written(net), "source 1\nplace 2\nsource 3")
        self.assertEqual(read(written(net)).sources(), [0, 2])

    def test_ten_of_each(self):
        lines = [(9, at, at) for at in range(9)] + [(0, 1, 9)]
        net = Net(list(range(10)), [9], lines)
        rows = written(net).split("\n")
        self.assertEqual(len(rows), 20)
        self.assertEqual((rows[8], rows[9], rows[10], rows[19]), ("place 8", "source 9", "line 9 0 0", "line 0 1 9"))

    def test_what_is_written_is_read_to_the_same(self):
        for seed in range(100):
            needs, sources, lines = made_net(seed, most_places=9, most_lines=10, most_sources=4)
            net = read(written(Net(needs, sources[::-1], lines)))
            self.assertIs(type(net), Net)
            self.assertEqual(parts(net), (needs, sorted(sources), lines))
            self.assertTrue(all(type(line) is tuple for line in net.lines()))
            self.assertEqual(written(net), written(Net(needs, sources, lines)))

    def test_keywords(self):
        self.assertEqual(written(net=Net([3], [], [])), "place 3")
        self.assertEqual(read(text="place 3").needs(), [3])


class Read(unittest.TestCase):
    def check_bad(self, text, row):
        self.assertEqual(refused(self, BadText, read, text).row, row)

    def check_bad_row(self, row):
        """Check that the row is bad wherever it stands."""
        self.check_bad(row, 0)
        self.check_bad("place 3\nsource 0\n" + row, 2)
        self.check_bad("place 3\nsource 0\n" + row + "\nplace 5\nline 0 1 9", 2)
        self.check_bad("place 3\nsource 0\nline 0 1 9\n" + row + "\nline 0 1 9", 3)

    def test_a_good_text(self):
        self.assertEqual(parts(read("place 4\nsource 0\nplace 1000000\nline 2 0 5\nline 1 2 0")),
                         ([4, 0, MOST], [1], [(2, 0, 5), (1, 2, 0)]))
        self.assertEqual(parts(read("source 10")), ([10], [0], []))
        self.assertEqual(parts(read("source 1\nsource 2\nline 1 0 305")), ([1, 2], [0, 1], [(1, 0, 305)]))

    def test_unknown_words(self):
        for row in ("lamp 3", "Place 3", "PLACE 3", "places 3", "plac 3", "3 place", "3", "sources 3", "lines 0 1 3",
                    "place=3", "line0 1 3", "#", "place\t3"):
            self.check_bad_row(row)

    def test_too_few_or_too_many_words(self):
        for row in ("place", "source", "line", "place 3 4", "source 3 4", "line 0", "line 0 1", "line 0 1 2 3",
                    "place 0 1 2", "source 0 1 2", "line 0 1 2 line 0 1 2"):
            self.check_bad_row(row)

    def test_blanks(self):
        for row in (" place 3", "place 3 ", "place  3", "place ", " ", "  ", " line 0 1 2", "line 0 1 2 ",
                    "line  0 1 2", "line 0  1 2", "line 0 1  2", "line 0 1 ", "line  1 2", "line   ", "source  "):
            self.check_bad_row(row)

    def test_an_empty_row(self):
        self.check_bad_row("")
        self.check_bad("\nplace 3", 0)
        self.check_bad("place 3\n\nplace 3", 1)
        self.check_bad("\n", 0)

    def test_an_empty_text(self):
        self.check_bad("", 0)

    def test_a_line_feed_at_the_end(self):
        self.check_bad("place 3\n", 1)
        self.check_bad("place 3\nplace 3\nline 0 1 3\n", 3)
        self.check_bad("place 3\n\n", 1)

    def test_another_line_end(self):
        self.check_bad("place 3\r\nplace 3", 0)
        self.check_bad("place 3\nplace 3\r", 1)
        self.check_bad("place 3\rplace 3", 0)

    def test_numbers(self):
        for number in ("00", "01", "007", "0000000", "-1", "-0", "+1", "12345678", "00000001", "99999999", "", "x",
                       "1x", "x1", "1.0", "1_0", "1,0", "0x1", "1e3", "--1", "1-"):
            for row in (f"place {number}", f"source {number}", f"line {number} 1 3", f"line 0 {number} 3",
                        f"line 0 1 {number}"):
                self.check_bad_row(row)

    def test_numbers_that_are_good(self):
        for number in (0, 1, 9, 10, 100, 101, 99999, 999999, 1000000):
            text = f"source {number}\nplace {number}\nline 0 1 {number}"
            self.assertEqual(parts(read(text)), ([number] * 2, [0], [(0, 1, number)]))

    def test_a_place_behind_a_line(self):
        self.check_bad("place 3\nplace 3\nline 0 1 3\nplace 3", 3)
        self.check_bad("place 3\nplace 3\nline 0 1 3\nsource 3\nline 0 1 3", 3)
        self.check_bad("line 0 1 3\nplace 3\nplace 3", 1)

    def test_the_first_bad_row_is_told(self):
        self.check_bad("place 3\nplace x\nline 0", 1)
        self.check_bad("place 3\nplace 3\nline 0 1 3\nplace 3\nline 0", 3)
        self.check_bad("place 3\nline\nplace 3\nlamp", 1)
        self.check_bad("place 3\nplace 3\nline 0 1\nplace 4\n", 2)

    def test_a_good_text_of_a_net_that_cannot_be(self):
        for text, at, why in (("line 0 1 3", 0, "many"), ("\n".join(["place 3"] * 11), 0, "many"),
                              ("place 3\nplace 1000001", 1, "need"), ("source 9999999\nplace 3", 0, "need"),
                              ("place 3\nplace 3" + "\nline 0 1 3" * 11, 0, "lines"),
                              ("place 3\nplace 3\nline 0 2 3", 0, "place"), ("place 3\nline 0 0 3", 0, "place"),
                              ("place 3\nplace 3\nline 0 1 3\nline 1234567 0 3", 1, "place"),
                              ("place 3\nplace 3\nline 0 1 1000001", 0, "limit"),
                              ("place 1000001\nplace 3\nline 0 1 1000001", 0, "need")):
            error = refused(self, BadNet, read, text)
            self.assertEqual((error.at, error.why), (at, why))

    def test_bad_text_ahead_of_bad_net(self):
        self.check_bad("place 9999999\nplace", 1)
        self.check_bad("line 0 1 3\nplace 3", 1)
        self.check_bad("\n".join(["place 3"] * 11) + "\n", 11)
        self.check_bad("place 3\nline 0 0 3\nline 0 0", 2)


if __name__ == "__main__":
    unittest.main()
