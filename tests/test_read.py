"""Promise 1: read."""

import unittest

from tests.calling import LARGEST, SMALL, SMALL_NUMBERS, ask, numbers, plain_lists, read, text, written_table

PLACES = b"stations 0-0-0 1-0-0\n"
LEVEL = b"level 0-0-0: 0-0-0 0-0-0\n"
LEVEL_ABOVE = b"level 0-0-1: 0-0-0 0-0-0\n"


def big_text(stations, levels):
    return written_table(*plain_lists(stations, levels))


class ReadCase(unittest.TestCase):
    def faulty(self, kind, marked):
        """The sign @ stands before the fault's place, or behind all where that's the text's end."""
        with self.subTest(text=marked):
            place = marked.index(b"@")
            plain = marked.replace(b"@", b"")
            self.assertEqual(ask(read(plain)), [[0, kind, place]])

    def faulty_in_each_role(self, kind, measure, roles=("place", "later place", "height", "later height", "breadth")):
        """measure, marked, as a whole one in a text that's otherwise a table's."""
        around = {
            "place": (b"stations ", b" 5000-0-0\n" + LEVEL + LEVEL_ABOVE),
            "later place": (b"stations 0-0-0 ", b"\n" + LEVEL + LEVEL_ABOVE),
            "height": (PLACES + b"level ", b": 0-0-0 0-0-0\nlevel 5000-0-0: 0-0-0 0-0-0\n"),
            "later height": (PLACES + b"level -5000-0-0: 0-0-0 0-0-0\nlevel ", b": 0-0-0 0-0-0\n"),
            "breadth": (PLACES + LEVEL + b"level 1-0-0: ", b" 0-0-0\n"),
        }
        for role in roles:
            ahead, behind = around[role]
            self.faulty(kind, ahead + measure + behind)


class Tables(ReadCase):
    def test_a_tables_text_is_taken(self):
        self.assertEqual(ask(read(SMALL), numbers()), [[0, 0, 0], SMALL_NUMBERS])

    def test_the_fewest_and_the_most(self):
        for stations, levels in ((2, 2), (2, 16), (24, 2), (24, 16), (5, 3)):
            with self.subTest(stations=stations, levels=levels):
                places, heights, breadths = plain_lists(stations, levels)
                told = ask(read(written_table(places, heights, breadths)), numbers())
                self.assertEqual(told, [[0, 0, 0], [0, stations, levels] + places + heights + breadths])

    def test_the_bounds_of_measures(self):
        given = (b"stations 5461-3-7 5461-3-7+\n"
                 b"level -5461-3-7+: 5461-3-7+ 0-0-0+\n"
                 b"level 5461-3-7+: 0-11-7+ 10-10-0\n")
        told = ask(read(given), numbers())
        self.assertEqual(told[0], [0, 0, 0])
        self.assertEqual(told[1], [0, 2, 2, LARGEST - 1, LARGEST, -LARGEST, LARGEST, LARGEST, 1, 191, 2080])

    def test_the_last_table_read_is_the_objects(self):
        other = PLACES + LEVEL + LEVEL_ABOVE
        told = ask(read(SMALL), read(other), text())
        self.assertEqual(told, [[0, 0, 0], [0, 0, 0], [0] + list(other)])


class Kept(ReadCase):
    FAULTY = (b"", b"stations 0-0-0 0-0-0\n", b"stations -0-0-0 ", PLACES, PLACES + LEVEL,
              PLACES + LEVEL + LEVEL_ABOVE + b"x", b"x" * 20001)

    def test_a_faulty_text_leaves_a_new_object_without_table(self):
        for faulty in self.FAULTY:
            with self.subTest(text=faulty[:60]):
                self.assertEqual(ask(read(faulty), text(), numbers())[1:], [[-5], [-5]])

    def test_a_faulty_text_leaves_the_table_there(self):
        for faulty in self.FAULTY:
            with self.subTest(text=faulty[:60]):
                told = ask(read(SMALL), read(faulty), text(), numbers())
                self.assertEqual(told[2:], [[0] + list(SMALL), SMALL_NUMBERS])


class Length(ReadCase):
    def test_20000_bytes_are_read(self):
        digits = b"stations 1" + b"0" * 19990
        self.assertEqual(len(digits), 20000)
        self.assertEqual(ask(read(digits)), [[0, 1, 20000]])
        self.assertEqual(ask(read(digits[:-5] + b"-0-0 ")), [[0, 2, 9]])
        self.assertEqual(ask(read(b"x" * 20000)), [[0, 1, 0]])
        full = big_text(24, 16)
        self.assertEqual(ask(read(full + b"\n" * (20000 - len(full)))), [[0, 4, len(full)]])

    def test_20001_bytes_and_more_are_refused(self):
        for length in (20001, 25000):
            self.assertEqual(ask(read(b"x" * length)), [[-1]])
            self.assertEqual(ask(read(SMALL + b"\n" * (length - len(SMALL)))), [[-1]])

    def test_an_empty_text(self):
        self.faulty(1, b"@")


class ShapeOfWords(ReadCase):
    def test_each_byte_of_the_first_word(self):
        for k in range(8):
            self.faulty(1, b"stations"[:k] + b"@x" + SMALL[k + 1:])
            self.faulty(1, b"stations"[:k] + b"@")
            self.faulty(1, b"stations"[:k] + b"@\n" + SMALL[k:])
        self.faulty(1, b"@Stations 0-0-0 1-0-0\n" + LEVEL + LEVEL_ABOVE)
        self.faulty(1, b"@\nstations 0-0-0 1-0-0\n" + LEVEL + LEVEL_ABOVE)
        self.faulty(1, b"@ stations 0-0-0 1-0-0\n" + LEVEL + LEVEL_ABOVE)

    def test_each_byte_of_a_levels_word(self):
        for ahead in (PLACES, PLACES + LEVEL, PLACES + LEVEL + LEVEL_ABOVE):
            for k in range(6):
                self.faulty(1, ahead + b"level "[:k] + b"@x" + LEVEL[k + 1:])
                self.faulty(1, ahead + b"level "[:k] + b"@\n" + LEVEL[k:])
                if k > 0:
                    self.faulty(1, ahead + b"level "[:k] + b"@")

    def test_behind_the_first_word(self):
        self.faulty(1, b"stations@")
        self.faulty(1, b"stations@x")
        self.faulty(1, b"stations@0-0-0 1-0-0\n")
        self.faulty(1, b"stations@: 0-0-0 1-0-0\n")
        self.faulty(1, b"stations @")
        self.faulty(1, b"stations @\n")
        self.faulty(1, b"stations @ 0-0-0")
        self.faulty(1, b"stations@\t0-0-0")
        self.faulty(1, b"stations@\r\n")

    def test_behind_places(self):
        self.faulty(1, b"stations 0-0-0@:")
        self.faulty(1, b"stations 0-0-0 1-0-0@\r\n")
        self.faulty(1, b"stations 0-0-0 1-0-0 @\n")
        self.faulty(1, b"stations 0-0-0 1-0-0@x\n")
        self.faulty(1, b"stations 0-0-0 @")

    def test_behind_a_height(self):
        self.faulty(1, PLACES + b"level 0-0-0@ 0-0-0 0-0-0\n")
        self.faulty(1, PLACES + b"level 0-0-0@\n")
        self.faulty(1, PLACES + b"level 0-0-0@;")
        self.faulty(1, PLACES + b"level @ 0-0-0: 0-0-0 0-0-0\n")
        self.faulty(1, PLACES + b"level @: 0-0-0 0-0-0\n")
        self.faulty(1, PLACES + b"level @")
        self.faulty(1, PLACES + b"level@: 0-0-0 0-0-0\n")

    def test_behind_the_colon(self):
        self.faulty(1, PLACES + b"level 0-0-0:@")
        self.faulty(1, PLACES + b"level 0-0-0:@0-0-0 0-0-0\n")
        self.faulty(1, PLACES + b"level 0-0-0:@: 0-0-0 0-0-0\n")
        self.faulty(1, PLACES + b"level 0-0-0: @\n")
        self.faulty(1, PLACES + b"level 0-0-0: @")

    def test_behind_half_breadths(self):
        self.faulty(1, PLACES + b"level 0-0-0: 0-0-0@: 0-0-0\n")
        self.faulty(1, PLACES + b"level 0-0-0: 0-0-0@,")
        self.faulty(1, PLACES + b"level 0-0-0: 0-0-0  0-0-0\n".replace(b"  ", b" @ "))
        self.faulty(1, PLACES + b"level 0-0-0: 0-0-0 0-0-0@\r\n")

    def test_a_second_line_of_stations(self):
        self.faulty(1, PLACES + b"@" + PLACES + LEVEL)

    def test_empty_lines(self):
        self.faulty(1, PLACES + b"@\n" + LEVEL + LEVEL_ABOVE)
        self.faulty(1, PLACES + LEVEL + LEVEL_ABOVE + b"@\n")

    def test_the_texts_end_at_every_place(self):
        ends_of_lines = [k + 1 for k, byte in enumerate(SMALL) if byte == 10]
        for length in range(len(SMALL)):
            self.faulty(4 if length in ends_of_lines else 1, SMALL[:length] + b"@")


class ShapeOfMeasures(ReadCase):
    def test_a_first_digit_of_feet(self):
        for measure in (b"@x-0-0", b"@+1-0-0", b"@:0-0-0", b"@/0-0-0", b"-@-1-0-0", b"-@x", b"-@+", b"-@"):
            self.faulty_in_each_role(1, measure)

    def test_a_further_one_behind_0(self):
        for measure in (b"0@0-0-0", b"0@1-0-0", b"-0@0-0-0", b"0-0@0-0", b"0-0@9-0", b"-1-0@1-0"):
            self.faulty_in_each_role(1, measure)

    def test_a_first_digit_of_inches(self):
        for measure in (b"1-@-0", b"1-@x-0", b"1-@+", b"-1-@-1-0", b"1-@", b"1-@/-0", b"1-@:-0"):
            self.faulty_in_each_role(1, measure)

    def test_a_third_one_of_inches(self):
        for measure in (b"1-11@1-0", b"1-10@0-0", b"-1-99@9-0"):
            self.faulty_in_each_role(1, measure)

    def test_what_a_measure_does_not_go_on_with(self):
        for measure in (b"1@x0-0", b"1@+-0-0", b"12@ 0-0", b"0@.0", b"1@:0-0", b"1@/0-0", b"1-1@x", b"1-1@+0", b"1-11@.0",
                        b"1-0@+", b"1-1@", b"1@", b"1-0-@", b"1-0-@-1", b"1-0-@x", b"1-0-@+", b"1-0-@:", b"1-0-@/"):
            self.faulty_in_each_role(1, measure)

    def test_behind_a_whole_one(self):
        for measure in (b"1-0-0@0", b"1-0-7@1", b"1-0-0+@+", b"1-0-0+@0", b"1-0-0@-", b"1-0-0@x", b"1-0-0+@-", b"1-0-0@\0",
                        b"1-0-0@\xff"):
            self.faulty_in_each_role(1, measure)

    def test_at_the_texts_end_a_measure_is_not_whole(self):
        for measure in (b"1-0-0", b"1-0-0+", b"-0-0-0", b"9999-0-0", b"1-12-0", b"1-0-8", b"0-0-0", b"-1-0-0"):
            self.faulty(1, b"stations " + measure + b"@")
            self.faulty(1, b"stations 1-0-0 " + measure + b"@")
            self.faulty(1, PLACES + b"level " + measure + b"@")
            self.faulty(1, PLACES + b"level 9-0-0: 0-0-0 0-0-0\nlevel " + measure + b"@")
            self.faulty(1, PLACES + b"level 0-0-0: 0-0-0 " + measure + b"@")


class NoMeasure(ReadCase):
    def test_feet_above_5461(self):
        for measure in (b"@5462-0-0", b"@9999-0-0", b"@10000-0-0", b"@54610-0-0", b"@-5462-0-0", b"@1" + b"0" * 5000 + b"-0-0"):
            self.faulty_in_each_role(2, measure)

    def test_inches_above_11(self):
        for measure in (b"@1-12-0", b"@0-99-7+", b"@-1-12-0"):
            self.faulty_in_each_role(2, measure)

    def test_eighths_above_7(self):
        for measure in (b"@1-0-8", b"@1-0-9+", b"@-1-0-8+"):
            self.faulty_in_each_role(2, measure)

    def test_above_1048575_in_size(self):
        for measure in (b"@5461-4-0", b"@5461-11-7+", b"@-5461-4-0"):
            self.faulty_in_each_role(2, measure)

    def test_minus_0(self):
        self.faulty_in_each_role(2, b"@-0-0-0")

    def test_below_0_where_it_may_not_be(self):
        for measure in (b"@-0-0-0+", b"@-1-0-0", b"@-5461-3-7+"):
            self.faulty_in_each_role(2, measure, roles=("place", "later place", "breadth"))

    def test_heights_may_be_below_0(self):
        for height in (b"-0-0-0+", b"-1-0-0", b"-5461-3-7+"):
            given = PLACES + b"level " + height + b": 0-0-0 0-0-0\n" + LEVEL
            self.assertEqual(ask(read(given)), [[0, 0, 0]])

    def test_small_minus_is_a_measure(self):
        given = PLACES + b"level -0-0-0+: 0-0-0 0-0-0\n" + LEVEL
        self.assertEqual(ask(read(given), numbers())[1][5:7], [-1, 0])


class NotRising(ReadCase):
    def test_places(self):
        self.faulty(3, b"stations 1-0-0 @1-0-0\n" + LEVEL + LEVEL_ABOVE)
        self.faulty(3, b"stations 1-0-0 @0-11-7+\n" + LEVEL + LEVEL_ABOVE)
        self.faulty(3, b"stations 0-0-0 1-0-0 2-0-0 @1-0-0+ 3-0-0\n")
        self.faulty(3, b"stations 0-0-0 @0-0-0 0-0-0\n")

    def test_heights(self):
        self.faulty(3, PLACES + LEVEL + b"level @0-0-0: 0-0-0 0-0-0\n")
        self.faulty(3, PLACES + LEVEL + b"level @-0-0-0+: 0-0-0 0-0-0\n")
        self.faulty(3, PLACES + LEVEL + LEVEL_ABOVE + b"level @0-0-0+: 0-0-0 0-0-0\n")

    def test_a_step_of_a_sixteenth_rises(self):
        given = (b"stations 0-0-0 0-0-0+\n"
                 b"level -0-0-0+: 0-0-0 0-0-0\n"
                 b"level 0-0-0: 0-0-0 0-0-0\n")
        self.assertEqual(ask(read(given)), [[0, 0, 0]])

    def test_half_breadths_need_not_rise(self):
        given = PLACES + b"level 0-0-0: 1-0-0 0-0-0\n" + b"level 0-0-1: 1-0-0 1-0-0\n"
        self.assertEqual(ask(read(given)), [[0, 0, 0]])

    def test_the_last_place(self):
        full = big_text(24, 2).split(b"\n")[0].rsplit(b" ", 1)[0]
        self.faulty(3, full + b" @0-0-0 1-0-0\n")


class Counts(ReadCase):
    def test_a_25th_place(self):
        full = big_text(24, 2).split(b"\n")[0]
        self.faulty(4, full + b"@ 5000-0-0\n")
        self.faulty(4, full + b"@ 0-0-0\n")
        self.faulty(4, full + b"@ x")
        self.faulty(4, full + b"@ ")
        self.faulty(1, full + b"@x")
        self.faulty(1, full + b"@")

    def test_fewer_than_2_places(self):
        self.faulty(4, b"stations@\n" + LEVEL + LEVEL_ABOVE)
        self.faulty(4, b"stations 0-0-0@\n" + LEVEL + LEVEL_ABOVE)
        self.faulty(4, b"stations@\n")

    def test_a_half_breadth_too_many(self):
        self.faulty(4, PLACES + b"level 0-0-0: 0-0-0 0-0-0@ 0-0-0\n")
        self.faulty(4, PLACES + b"level 0-0-0: 0-0-0 0-0-0@ x")
        self.faulty(4, PLACES + b"level 0-0-0: 0-0-0 0-0-0@ ")
        self.faulty(4, PLACES + LEVEL + b"level 1-0-0: 0-0-0 0-0-0@ 0-0-0\n")
        full = big_text(24, 2)
        self.faulty(4, full[:-1] + b"@ 0-0-0\n")

    def test_too_few_half_breadths(self):
        self.faulty(4, PLACES + b"level 0-0-0:@\n")
        self.faulty(4, PLACES + b"level 0-0-0: 0-0-0@\n")
        self.faulty(4, PLACES + LEVEL + b"level 1-0-0: 0-0-0@\n")
        full = big_text(24, 2)
        self.faulty(4, full[:-1].rsplit(b" ", 1)[0] + b"@\n")

    def test_any_byte_behind_the_16th_level(self):
        full = big_text(2, 16)
        for byte in range(256):
            if byte != ord("@"):
                self.faulty(4, full + b"@" + bytes([byte]))
        self.assertEqual(ask(read(full + b"@")), [[0, 4, len(full)]])
        self.faulty(4, full + b"@level 5000-0-0: 0-0-0 0-0-0\n")
        self.faulty(4, full + b"@level 0-0-0: 0-0-0 0-0-0\n")

    def test_fewer_than_2_levels(self):
        self.faulty(4, PLACES + b"@")
        self.faulty(4, PLACES + LEVEL + b"@")


class Order(ReadCase):
    def test_of_one_measure_2_goes_before_3(self):
        self.faulty(2, b"stations 1-0-0 @-0-0-0 ")
        self.faulty(2, b"stations 1-0-0 @-1-0-0 ")
        self.faulty(2, b"stations 1-0-0 @0-0-8 ")
        self.faulty(2, PLACES + LEVEL + b"level @-0-0-0:")
        self.faulty(2, PLACES + LEVEL + b"level @-1-12-0:")

    def test_2_and_3_go_before_a_byte_behind(self):
        for byte in (b"x", b"\0", b"\xff", b"-", b":", b"\r"):
            self.faulty(2, b"stations @1-12-0" + byte)
            self.faulty(3, b"stations 1-0-0 @1-0-0" + byte)
            self.faulty(2, PLACES + b"level 0-0-0: @-1-0-0" + byte)
        for byte in (b"x", b"\0", b" ", b"\n", b"-"):
            self.faulty(2, PLACES + b"level @-0-0-0" + byte)
            self.faulty(3, PLACES + LEVEL + b"level @0-0-0" + byte)

    def test_a_fault_of_shape_in_it_goes_before_2_and_3(self):
        self.faulty(1, b"stations 9999-@x")
        self.faulty(1, b"stations 9999-12-9@9")
        self.faulty(1, b"stations -0-0-0@0")
        self.faulty(1, b"stations -0-0-0+@+")
        self.faulty(1, b"stations 1-0-0 0-0-0@0")
        self.faulty(1, b"stations 1-0-0 -1-12@0-0")
        self.faulty(1, PLACES + LEVEL + b"level 0-0-0@1")

    def test_2_and_3_go_before_too_many_or_too_few(self):
        full = big_text(24, 2).split(b"\n")[0].rsplit(b" ", 1)[0]
        self.faulty(2, full + b" @9999-0-0 ")
        self.faulty(3, full + b" @0-0-0 ")
        self.faulty(2, b"stations @-0-0-0\n")
        self.faulty(2, PLACES + b"level 0-0-0: @-0-0-0\n")
        self.faulty(2, PLACES + b"level 0-0-0: 0-0-0 @0-12-0 0-0-0\n")

    def test_the_first_of_several(self):
        self.faulty(3, b"stations 1-0-0 @0-0-0 -0-0-0 x")
        self.faulty(4, b"stations 1-0-0@\nlevel x")
        self.faulty(2, PLACES + b"level 0-0-0: 0-0-0 @0-0-9\nlevel 0-0-0: x")


if __name__ == "__main__":
    unittest.main()
