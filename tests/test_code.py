import random
import unittest

from stopsheld.code import location_order, locations_in
from stopsheld.codetext import parse_code
from tests.samples import LOCATIONS, random_code


class LocationOrderTest(unittest.TestCase):
    def check(self, text, expected):
        locations = tuple(text.split())
        self.assertEqual(location_order(locations), tuple(expected.split()))
        self.assertEqual(locations, tuple(text.split()))

    def test_registers_then_slots_then_the_scratch(self):
        self.check("t s0 r0", "r0 s0 t")
        self.check("t s15 r7 s0 r0", "r0 r7 s0 s15 t")

    def test_by_number_not_as_texts(self):
        self.check("s10 s9 s1 s11 s2 s15 s3", "s1 s2 s3 s9 s10 s11 s15")

    def test_each_once(self):
        self.check("r1 t r1 s2 t s2 r1", "r1 s2 t")

    def test_none_and_one(self):
        self.check("", "")
        self.check("t", "t")
        self.check("r5", "r5")

    def test_all(self):
        chance = random.Random(61)
        for many in range(26):
            row = chance.sample(LOCATIONS, many)
            expected = tuple([location for location in LOCATIONS if location in row])
            self.assertEqual(location_order(tuple(row)), expected)
            self.assertEqual(location_order(tuple(row + row)), expected)
            self.assertEqual(location_order(list(row)), expected)

    def test_tuple(self):
        self.assertIs(location_order(()).__class__, tuple)
        self.assertIs(location_order(("r0",)).__class__, tuple)


class LocationsInTest(unittest.TestCase):
    def check(self, text, expected):
        found = locations_in(parse_code(text))
        self.assertEqual(found, tuple(expected.split()))
        self.assertIs(found.__class__, tuple)

    def test_scratch_is_always_told(self):
        self.check("inputs\nblock a\njump b\nblock b\njump b", "t")
        self.check("inputs t\nblock a\nreturn t", "t")

    def test_inputs(self):
        self.check("inputs s3 r6 r1\nblock a\njump b\nblock b\njump b", "r1 r6 s3 t")

    def test_lines(self):
        self.check("inputs\nblock a\nr3 = const 5\nreturn r3", "r3 t")
        self.check("inputs\nblock a\nr3 = read\nreturn r3", "r3 t")
        self.check("inputs\nblock a\nprint s7\nreturn r3", "r3 s7 t")
        self.check("inputs\nblock a\ns2 = add r4 s1\nreturn s2", "r4 s1 s2 t")
        self.check("inputs\nblock a\ns2 = sub s2 s2\nreturn s2", "s2 t")
        self.check("inputs\nblock a\ns2 = move r4\nreturn s2", "r4 s2 t")

    def test_ends(self):
        self.check("inputs\nblock a\nreturn s9", "s9 t")
        self.check("inputs\nblock a\nbranch s9 b else b\nblock b\njump b", "s9 t")

    def test_moves(self):
        self.check("inputs\nblock a\njump b r1=s1 t=r2\nblock b\njump b", "r1 r2 s1 t")
        self.check("inputs\nblock a\nbranch r0 b r1=s1 else b r2=s10 s9=r2\nblock b\njump b", "r0 r1 r2 s1 s9 s10 t")

    def test_all_blocks_in_order_each_location_once(self):
        self.check("inputs r1 r0\nblock a\nr2 = add r0 r1\njump b r0=r1\nblock b\ns0 = move r0\nreturn s0",
                   "r0 r1 r2 s0 t")

    def test_names_of_blocks_are_no_locations(self):
        self.check("inputs\nblock r0\nbranch r1 r2 else t\nblock r2\njump s3\nblock t\njump s3\nblock s3\nreturn r1",
                   "r1 t")

    def test_code_by_chance(self):
        chance = random.Random(62)
        for _ in range(300):
            code = random_code(chance)
            # Blocks have names of one letter, and no other word is a location.
            words = str([code[0], [row[1:] for row in code[1]]]).replace("'t'", "' '")
            expected = tuple([location for location in LOCATIONS[:-1] if f"'{location}'" in words]) + ("t",)
            self.assertEqual(locations_in(code), expected)


if __name__ == "__main__":
    unittest.main()
