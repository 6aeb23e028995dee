"""Tables of truth, and the parts into which they split their cases."""

import random
import unittest

from pathtimes.tables import CaseParts, bit_places, choice_tables, mark_tables


def all_parts(tables, full):
    parts = CaseParts(tables, full)
    found = []
    part = parts.next_part()
    while part is not None:
        found.append(part)
        part = parts.next_part()
    return found


class Tables(unittest.TestCase):
    def test_places_of_bits(self):
        self.assertEqual(bit_places(0), [])
        self.assertEqual(bit_places(1), [0])
        self.assertEqual(bit_places(0b10110), [1, 2, 4])
        self.assertEqual(bit_places(1 << 63 | 1), [0, 63])
        self.assertEqual(bit_places((1 << 64) - 1), list(range(64)))

    def test_tables_of_marks(self):
        self.assertEqual(mark_tables([0, 15], [1, 32768, 32769, 65536]), {0: 0b0101, 15: 0b0110})
        self.assertEqual(mark_tables([], [1, 2]), {})

    def test_every_choice_of_letters_is_one_case(self):
        for letters in ([], [3], [5, 2], list(range(10))):
            tables = choice_tables(letters)
            self.assertEqual(sorted(tables), sorted(letters))
            size = 1 << len(letters)
            choices = [tuple(tables[letter] >> case & 1 for letter in letters) for case in range(size)]
            self.assertEqual(len(set(choices)), size)
            for letter in letters:
                self.assertEqual(tables[letter] >> size, 0)

    def test_sixteen_letters(self):
        tables = choice_tables(list(range(16)))
        for case in (0, 1, 2, 4096, 32768, 43690, 65535):
            self.assertEqual([tables[letter] >> case & 1 for letter in range(16)],
                             [case >> letter & 1 for letter in range(16)])

    def test_each_case_is_in_one_part(self):
        source = random.Random(61)
        for turn in range(300):
            size = source.randrange(1, 40)
            tables = [source.randrange(1 << size) & source.randrange(1 << size) for table in range(source.randrange(6))]
            found = all_parts(tables, (1 << size) - 1)
            expected = {}
            for case in range(size):
                number = sum((table >> case & 1) << place for place, table in enumerate(tables))
                expected[number] = expected.get(number, 0) | 1 << case
            self.assertEqual(dict(found), expected)
            self.assertEqual(len(found), len(expected))

    def test_without_tables_all_cases_are_one_part(self):
        self.assertEqual(all_parts([], 7), [(0, 7)])


if __name__ == "__main__":
    unittest.main()
