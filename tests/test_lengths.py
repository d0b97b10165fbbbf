import itertools
import random
import unittest

from lumpplans.lengths import are_telling, fewest_lengths, lacking, next_length, used_entries
from lumpplans.plans import Plan
from tests import oracles
from tests.samples import check_new_list, drawn_table, tables_of

MOST = 10 ** 30
ALL_SIZES = [sizes for many in range(4) for sizes in itertools.product(range(2, 6), repeat=many)] + [
    (12,) * 6, (2,) * 6, (12, 2, 11, 3, 10, 4), (2, 2, 2, 2, 2, 3), (3,) * 6, (4, 4), (9, 9, 2), (2, 12), (12, 2)]


def counted(sizes, n):
    """Return the entries that are used at n, by the stretches of rows that are pressed."""
    found = set()
    many = n
    for k, size in enumerate(sizes):
        groups = [min(size, many - at) for at in range(0, many, size)]
        found.update((k, m) for m in groups if m >= 2)
        many = len(groups)
    return sorted(found)


class UsedEntriesTest(unittest.TestCase):
    def test_examples(self):
        self.assertEqual(used_entries([3, 5], 7), [(0, 3), (1, 3)])
        self.assertEqual(used_entries([3, 5], 13), [(0, 3), (1, 5)])

    def test_by_counting(self):
        for sizes in ALL_SIZES:
            for n in list(range(1, 70)) + [100, 144, 145, 1000]:
                found = used_entries(list(sizes), n)
                self.assertEqual(found, counted(sizes, n))
                self.assertEqual(used_entries(sizes, n), found)
                for pair in found:
                    self.assertIs(type(pair), tuple)

    def test_great_numbers(self):
        self.assertEqual(used_entries([12] * 6, 12 ** 6), [(k, 12) for k in range(6)])
        self.assertEqual(used_entries([12, 12], MOST), [(0, 4), (0, 12), (1, 6), (1, 12)])
        self.assertEqual(MOST % 12, 4)
        self.assertEqual((MOST // 12 + 1) % 12, 6)
        self.assertEqual(used_entries([], MOST), [])
        self.assertEqual(used_entries([2, 2], 1), [])

    def test_entries_that_are_used_show(self):
        """The shape at n is another one exactly if an entry that is used at n is another one."""
        draw = random.Random(160)
        for sizes in ((3, 4), (4, 3), (2, 4, 3), (5,)):
            for _ in range(20):
                tables = [drawn_table(draw, size) for size in sizes]
                end = draw.choice(["left", "right"])
                n = draw.randint(1, 40)
                for k, size in enumerate(sizes):
                    for m in range(3, size + 1):
                        entry = next(table[m - 2] for table in tables_of(size) if table[m - 2] != tables[k][m - 2])
                        other = tables[k][:m - 2] + (entry,) + tables[k][m - 1:]
                        shapes = [
                            oracles.plan_shape(Plan(told, end), n)
                            for told in (tables, tables[:k] + [other] + tables[k + 1:])]
                        self.assertEqual((k, m) in used_entries(sizes, n), shapes[0] != shapes[1])


class LackingTest(unittest.TestCase):
    def test_examples(self):
        self.assertEqual(lacking([3, 5], [7, 13]), [(1, 4)])
        self.assertIs(are_telling([3, 5], [7, 13]), False)
        self.assertIs(are_telling([3, 5], [22, 25]), True)
        self.assertIs(are_telling([3, 5], [22, 24]), False)

    def test_by_counting(self):
        draw = random.Random(161)
        for sizes in ALL_SIZES:
            for _ in range(20):
                lengths = [draw.choice([draw.randint(1, 80), draw.randint(1, 9999)]) for _ in range(draw.randint(0, 6))]
                used = {pair for n in lengths for pair in counted(sizes, n)}
                expected = [
                    (k, m) for k, size in enumerate(sizes) for m in range(3, size + 1) if (k, m) not in used]
                self.assertEqual(lacking(list(sizes), lengths), expected)
                self.assertEqual(lacking(sizes, tuple(lengths)), expected)
                self.assertIs(are_telling(list(sizes), lengths), expected == [])

    def test_no_lengths(self):
        self.assertEqual(lacking([4, 2, 3], []), [(0, 3), (0, 4), (2, 3)])
        self.assertEqual(lacking([], []), [])
        self.assertEqual(lacking([2, 2], [5]), [])
        self.assertIs(are_telling([], []), True)
        self.assertIs(are_telling([2, 2], []), True)
        self.assertIs(are_telling([3], []), False)

    def test_telling_lengths_tell(self):
        """Lengths tell the plans exactly if no two of them have the same shapes at all of the lengths."""
        draw = random.Random(162)
        told = 0
        for sizes in ((3,), (4,), (3, 3), (2, 3), (3, 2), (4, 2)):
            plans = [Plan(tables, "left") for tables in itertools.product(*[tables_of(size) for size in sizes])]
            for _ in range(12):
                lengths = [draw.randint(1, 20) for _ in range(draw.randint(0, 3))]
                shown = {tuple(oracles.plan_shape(plan, n) for n in lengths) for plan in plans}
                self.assertIs(are_telling(sizes, lengths), len(shown) == len(plans))
                told += len(shown) == len(plans)
        self.assertGreater(told, 5)


class FewestLengthsTest(unittest.TestCase):
    def test_fewest(self):
        for sizes in ALL_SIZES + [(a, b) for a in range(2, 13) for b in range(2, 13)]:
            greatest = max(sizes, default=2)
            fewest = 0 if greatest == 2 else max(greatest - 3, 1)
            found = fewest_lengths(list(sizes))
            self.assertEqual(len(found), fewest)
            self.assertEqual(found, sorted(set(found)))
            self.assertTrue(all(type(n) is int and 1 <= n <= MOST for n in found))
            self.assertIs(are_telling(sizes, found), True)
            self.assertEqual(fewest_lengths(sizes), found)

    def test_fewer_do_not_tell(self):
        for sizes in ((3,), (4,), (5,), (2, 5), (5, 4), (3, 3)):
            fewest = len(fewest_lengths(sizes))
            for lengths in itertools.combinations(range(1, 40), fewest - 1):
                self.assertIs(are_telling(sizes, lengths), False)


class NextLengthTest(unittest.TestCase):
    def test_examples(self):
        found = next_length([3, 5], [7, 13])
        self.assertIn((1, 4), used_entries([3, 5], found))
        self.assertIs(next_length([3, 5], [22, 25]), None)

    def test_first_lacking_entry(self):
        draw = random.Random(163)
        for sizes in ALL_SIZES:
            lengths = []
            while lacking(sizes, lengths):
                first = lacking(sizes, lengths)[0]
                found = next_length(list(sizes), lengths)
                self.assertEqual(found, next_length(sizes, tuple(lengths)))
                self.assertTrue(type(found) is int and 1 <= found <= MOST)
                self.assertIn(first, used_entries(sizes, found))
                lengths.append(found)
                if draw.random() < 0.3:
                    lengths.append(draw.randint(1, MOST))
            self.assertIs(next_length(sizes, lengths), None)

    def test_nothing_is_lacking(self):
        for sizes in ([], [2], [2] * 6):
            for lengths in ([], [1], [MOST]):
                self.assertIs(next_length(sizes, lengths), None)

    def test_new_lists(self):
        check_new_list(self, lambda: used_entries([3, 5], 13))
        check_new_list(self, lambda: lacking([3, 5], [7]))
        check_new_list(self, lambda: fewest_lengths([3, 5, 7]))
        sizes, lengths = [3, 5], [7, 13]
        for call in (lacking, are_telling, next_length):
            call(sizes, lengths)
        used_entries(sizes, 7)
        fewest_lengths(sizes).clear()
        self.assertEqual((sizes, lengths), ([3, 5], [7, 13]))


if __name__ == "__main__":
    unittest.main()
