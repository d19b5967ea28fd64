"""load: what a text tells, and each fault at its place."""

import random
import unittest

from tests.helper import WORKED, ask, fit, least, leaves_of, load, loaded, one_form, random_records, rule, tight_text

NUMBER = "from 0 to 1"


def record(fields, name="R"):
    return "record " + name + " { " + fields + " }"


def field(shape, name="a"):
    return name + " : " + shape + " ;"


class LoadCase(unittest.TestCase):
    def assert_told(self, text, *leaf_counts):
        self.assertEqual(loaded(text), [1, len(leaf_counts)] + list(leaf_counts), text)

    def assert_fault(self, code, marked):
        """The fault's place is where ^ stands in the text, which has none itself."""
        place = marked.index("^")
        text = marked.replace("^", "", 1)
        self.assertEqual(loaded(text), [0, code, place], text)

    def assert_fault_in_field(self, code, marked_shape):
        self.assert_fault(code, "record R { a : " + marked_shape + " ; }")


class TextLength(LoadCase):
    def test_4096_bytes_are_read(self):
        self.assert_told(record(field(NUMBER)).ljust(4096), 1)
        self.assert_told((record(field(NUMBER)) + "#").ljust(4096, "x"), 1)
        self.assert_told(record(field(NUMBER)).rjust(4096, "\n"), 1)

    def test_more_are_fault_1_at_4096(self):
        for length in (4097, 5000, 8192):
            self.assertEqual(loaded(record(field(NUMBER)).ljust(length)), [0, 1, 4096])

    def test_fault_1_is_told_before_all_others(self):
        self.assertEqual(loaded("?" * 4097), [0, 1, 4096])
        self.assertEqual(loaded("}" + " " * 8191), [0, 1, 4096])
        self.assertEqual(loaded("?" * 4096), [0, 2, 0])

    def test_end_at_4096(self):
        self.assertEqual(loaded(" " * 4096), [0, 3, 4096])


class Blanks(LoadCase):
    def test_blanks_and_remarks_stand_anywhere(self):
        choice = "one { x : maybe from 0 to 1 , y : many 2 from 0 to 1 }"
        tokens = record(field("from - 3 to 1 at 2 hot 7") + " " + field(choice, "b"))
        for between in (" ", "\t", "\n", "\n\n \t", " # a remark } ?\n", "#\n", "#\x00\xff#\r\n"):
            text = between.join([""] + tokens.split(" ") + [""])
            self.assert_told(text, 6)

    def test_a_remark_goes_to_the_end_of_the_text(self):
        self.assert_told(record(field(NUMBER)) + "# record", 1)
        self.assert_told("# record ; \n" + record(field(NUMBER)) + "#", 1)

    def test_a_remark_hides_what_stands_in_it(self):
        self.assert_fault(3, "record R { a : from 0 to 1 ; # }^")
        self.assert_fault(3, "# record R { a : from 0 to 1 ; }^")

    def test_tokens_need_no_blanks_where_they_end_by_themselves(self):
        self.assert_told("record R{a:from-3to 1at 2hot 7;b:many 2from 0to 1;}record Q{c:R;}", 3, 3)
        self.assert_fault(3, "record R{a:from 0to 1^at2;}")
        self.assert_fault(3, "^recordR{a:from 0to 1;}")

    def test_other_bytes_are_no_blanks(self):
        for byte in (0, 8, 11, 12, 13, 31, 127, 160, 255):
            text = record(field(NUMBER)).encode()
            self.assertEqual(loaded(text + bytes([byte])), [0, 2, len(text)])
            self.assertEqual(loaded(bytes([byte]) + text), [0, 2, 0])


class Tokens(LoadCase):
    def test_names_of_up_to_16_bytes(self):
        for name in ("a", "Z", "z9", "a0", "B" * 16, "a123456789012345", "recordx", "From", "TO", "att", "ofs", "name"):
            self.assert_told(record(field("one { " + name + " : from 0 to 1 , y0 : from 0 to 1 }", name), name), 3)
            self.assert_told(record(field(NUMBER), name) + record(field(name), "Q0"), 1, 1)

    def test_names_of_17_bytes_are_fault_2(self):
        for name in ("B" * 17, "a1234567890123456", "x" * 40):
            self.assert_fault(2, "record ^" + name + " { a : from 0 to 1 ; }")
            self.assert_fault(2, "record R { ^" + name + " : from 0 to 1 ; }")
            self.assert_fault(2, "record R { a : one { ^" + name + " : from 0 to 1 , y : from 0 to 1 } ; }")
            self.assert_fault(2, "record R { a : ^" + name + " ; }")

    def test_reserved_words_are_no_names(self):
        for word in ("record", "from", "to", "at", "maybe", "many", "one", "hot", "layout", "size", "of"):
            self.assert_fault(3, "record ^" + word + " { a : from 0 to 1 ; }")
            self.assert_fault(3, "record R { ^" + word + " : from 0 to 1 ; }")
            self.assert_fault(3, "record R { a : one { ^" + word + " : from 0 to 1 , y : from 0 to 1 } ; }")
        for word in ("record", "to", "at", "hot", "layout", "size", "of"):
            self.assert_fault(3, "record R { a : ^" + word + " ; }")

    def test_the_greatest_number(self):
        self.assert_fault_in_field(7, "from 0 to ^1000000000")
        self.assert_fault_in_field(2, "from 0 to ^1000000001")
        self.assert_fault_in_field(2, "from 0 to ^9999999999")
        self.assert_fault_in_field(2, "from 0 to ^10000000000")
        self.assert_fault_in_field(2, "from 0 to ^" + "9" * 4000)
        self.assert_fault_in_field(2, "from 0 to -^1000000001")

    def test_needless_zeros(self):
        for number in ("00", "01", "007", "0000000001", "00000000000001", "01000000000"):
            self.assert_fault_in_field(2, "from 0 to ^" + number)
            self.assert_fault_in_field(2, "from ^" + number + " to 9")
        self.assert_told(record(field("from 0 to 0")), 1)
        self.assert_told(record(field("from -0 to 0")), 1)
        self.assert_told(record(field("from 10 to 100")), 1)

    def test_bytes_that_begin_no_token(self):
        for sign in "!\"$%&'()*+/<=>?@[\\]^_`|~\x80\xe4":
            place = len("record R { a")
            self.assertEqual(loaded("record R { a" + sign + " : from 0 to 1 ; }"), [0, 2, place])

    def test_the_point_is_a_token(self):
        self.assert_fault(3, "record R ^. { a : from 0 to 1 ; }")

    def test_fault_2_is_told_before_an_earlier_fault_of_another_kind(self):
        self.assert_fault(2, "record { } ; 3 } x x ^?")
        self.assert_fault(2, "record R { a : from 1 to 0 at 3 ; a : Q ; } # ?\n ^007 ?")

    def test_the_first_fault_2_is_told(self):
        self.assert_fault(2, "record R { a : from 0 to ^01 ; ? " + "x" * 17)


class NotAllowed(LoadCase):
    def test_texts_without_records(self):
        for text in ("", " ", "\n\t ", "#", "# record", "#\n", " # x \n  "):
            self.assertEqual(loaded(text), [0, 3, len(text)])

    def test_a_record_without_fields(self):
        self.assert_fault(3, "record R { ^}")
        self.assert_fault(3, record(field(NUMBER)) + " record Q {^}")

    def test_a_one_with_a_single_alternative(self):
        self.assert_fault_in_field(3, "one { x : from 0 to 1 ^}")
        self.assert_fault_in_field(3, "one { ^}")
        self.assert_fault_in_field(3, "one { x : from 0 to 1 , ^}")
        self.assert_fault_in_field(3, "one { x : from 0 to 1 , y : from 0 to 1 , ^}")

    def test_the_text_ends_too_early(self):
        first = "record Q { c : from 0 to 1 ; }".split(" ")
        choice = "one { x : maybe from 0 to 1 , y : many 2 Q }"
        second = record(field("from - 3 to 1 at 2 hot 7") + " " + field(choice, "b")).split(" ")
        words = first + second
        for count in range(1, len(words)):
            text = " ".join(words[:count]) + "  "
            if count != len(first):
                self.assertEqual(loaded(text), [0, 3, len(text)], text)
        self.assert_told(" ".join(first), 1)
        self.assert_told(" ".join(words), 1, 6)

    def test_a_wrong_token_in_each_place(self):
        choice = "one { x : maybe Q , y : many 2 Q }"
        text = record(field(NUMBER), "Q") + " " + record(field("from - 3 to 1 at 2 hot 7") + " " + field(choice, "b"))
        words = text.split(" ")
        for number in range(len(words)):
            for wrong in (".", "layout", "size", "of"):
                before = " ".join(words[:number] + [""])
                text = before + " ".join([wrong] + words[number + 1:])
                self.assertEqual(loaded(text), [0, 3, len(before)], text)

    def test_left_out_tokens(self):
        for marked in (
            "^R { a : from 0 to 1 ; }", "record ^{ a : from 0 to 1 ; }", "record R ^a : from 0 to 1 ; }",
            "record R { ^: from 0 to 1 ; }", "record R { a ^from 0 to 1 ; }", "record R { a : ^0 to 1 ; }",
            "record R { a : from ^to 1 ; }", "record R { a : from 0 ^1 ; }", "record R { a : from 0 to ^; }",
            "record R { a : from 0 to 1 ^}", "record R { a : from 0 to 1 ; ^", "record R { a : from - ^to 1 ; }",
            "record R { a : from 0 to - ^; }", "record R { a : from 0 to 1 at ^; }",
            "record R { a : from 0 to 1 hot ^; }",
            "record R { a : maybe ^; }", "record R { a : many ^from 0 to 1 ; }", "record R { a : many 2 ^; }",
            "record R { a : one ^x : from 0 to 1 , y : from 0 to 1 } ; }",
            "record R { a : one { x ^from 0 to 1 , y : from 0 to 1 } ; }",
            "record R { a : one { x : from 0 to 1 ^y : from 0 to 1 } ; }",
            "record R { a : one { x : from 0 to 1 , y : from 0 to 1 ^; }",
            "record R { a : one { x : ^, y : from 0 to 1 } ; }",
        ):
            self.assert_fault(3, marked)

    def test_too_many_tokens(self):
        for marked in (
            "record R { a : from 0 to 1 ; ^; }", "record R { a : from 0 to 1 ; } ^}",
            "record R { a : from 0 to 1 ; } ^;",
            "record R { a : from 0 to 1 ; } ^Q { a : from 0 to 1 ; }", "record R { a : from - ^- 1 to 1 ; }",
            "record R { a : many ^- 2 from 0 to 1 ; }", "record R { a : from 0 to 1 at ^- 2 ; }",
            "record R { a : from 0 to 1 hot ^- 2 ; }", "record R { a : from 0 to 1 hot 2 ^hot 2 ; }",
            "record R { a : from 0 to 1 at 2 ^at 2 ; }", "record R { a : from 0 to 1 hot 2 ^at 2 ; }",
            "record R { a : maybe from 0 to 1 ^maybe ; }", "record R { a : one { x : from 0 to 1 ^hot 2 , y : R } ; }",
            "record Q { a : from 0 to 1 ; } record R { a : Q ^at 2 ; }",
        ):
            self.assert_fault(3, marked)


class TooMany(LoadCase):
    def test_six_records(self):
        text = " ".join([record(field(NUMBER), "R" + str(number)) for number in range(6)])
        self.assert_told(text, 1, 1, 1, 1, 1, 1)
        self.assert_fault(4, text + " ^record R6 { a : from 0 to 1 ; }")
        self.assert_fault(4, text + " ^record")
        self.assert_fault(4, text + " ^record R0 { }")
        self.assert_fault(3, text + " ^R6")
        self.assert_fault(3, text + " ^}")

    def test_four_alternatives(self):
        four = "one { x : from 0 to 1 , y : from 0 to 1 , z : from 0 to 1 , w : from 0 to 1 "
        self.assert_told(record(field(four + "}")), 5)
        for token in ("v : from 0 to 1 }", "x", "}", ",", "7", ";", "record", "one", "-"):
            self.assert_fault_in_field(4, four + ", ^" + token)
        self.assert_fault(4, "record R { a : " + four + ", ^")
        self.assert_fault(4, "record R { a : " + four + ", # x\n ^")
        self.assert_fault(3, "record R { a : " + four + "^")
        self.assert_fault_in_field(3, four + "^v")

    def test_six_deep(self):
        for deep in ("maybe ", "many 1 "):
            self.assert_told(record(field(deep * 5 + NUMBER)), 6 if deep == "maybe " else 1)
            for token in (NUMBER, "maybe", "Q", "R", ";", "}", "7", "from 9 to 0", "layout", "record"):
                self.assert_fault_in_field(4, deep * 6 + "^" + token)
            self.assert_fault(4, "record R { a : " + deep * 6 + "^")
            self.assert_fault(4, "record R { a : " + deep * 6 + "  #^")

    def test_alternatives_six_deep(self):
        opened = "one { x : " * 5
        closed = " , y : from 0 to 1 }" * 5
        self.assert_told(record(field(opened + NUMBER + closed)), 11)
        self.assert_fault_in_field(4, opened + "one { x : ^from 0 to 1")
        self.assert_fault_in_field(4, opened + "maybe ^" + NUMBER + closed)
        self.assert_fault_in_field(3, opened + "one { x ^from 0 to 1")
        self.assert_fault(4, "record R { a : " + opened + "one { x : ^")
        later = "one { y : from 0 to 1 , x : "
        self.assert_fault_in_field(4, later * 5 + "one { x : ^}")
        self.assert_fault_in_field(4, later * 5 + "maybe ^}")

    def test_the_number_of_a_many_comes_before_what_is_too_deep(self):
        self.assert_fault_in_field(7, "maybe " * 5 + "many ^9 maybe")
        self.assert_fault_in_field(4, "maybe " * 5 + "many 8 ^maybe")

    def test_what_stands_in_a_named_record_does_not_count(self):
        text = record(field("maybe " * 5 + NUMBER), "Q") + record(field("maybe " * 5 + "Q"))
        self.assert_told(text, 6, 11)
        self.assert_fault(4, record(field(NUMBER), "Q") + " record R { a : " + "maybe " * 6 + "^Q ; }")

    def test_a_shape_beside_another_is_no_deeper(self):
        self.assert_told(record(field("maybe " * 5 + NUMBER) + field("maybe " * 5 + NUMBER, "b")), 12)
        deep = "maybe " * 4 + NUMBER
        self.assert_told(record(field("one { x : " + deep + " , y : " + deep + " }")), 11)


class Names(LoadCase):
    def test_names_told_twice(self):
        self.assert_fault(5, record(field(NUMBER)) + " record ^R { a : from 0 to 1 ; }")
        self.assert_fault(5, record(field(NUMBER)) + record(field(NUMBER), "Q") + " record ^R")
        self.assert_fault(5, "record R { a : from 0 to 1 ; b : from 0 to 1 ; ^a : from 0 to 1 ; }")
        self.assert_fault(5, "record R { a : from 0 to 1 ; ^a")
        self.assert_fault_in_field(5, "one { x : from 0 to 1 , ^x : from 0 to 1 }")
        self.assert_fault_in_field(5, "one { x : from 0 to 1 , y : from 0 to 1 , z : from 0 to 1 , ^y : from 0 to 1 }")

    def test_names_in_different_places_may_be_the_same(self):
        inner = "one { a : from 0 to 1 , R : from 0 to 1 }"
        outer = "one { a : " + inner + " , R : from 0 to 1 }"
        self.assert_told(record(field(outer) + field(NUMBER, "R")) + record(field(outer), "a"), 6, 5)

    def test_great_and_small_letters_differ(self):
        self.assert_told(record(field(NUMBER) + field(NUMBER, "A")) + record(field("R"), "r"), 2, 2)

    def test_only_records_told_before_are_known(self):
        self.assert_fault_in_field(6, "^Q")
        self.assert_fault_in_field(6, "^R")
        self.assert_fault_in_field(6, "^a")
        self.assert_fault_in_field(6, "maybe ^R")
        self.assert_fault(6, "record R { a : ^Q ; } record Q { a : from 0 to 1 ; }")
        self.assert_fault(6, record(field(NUMBER)) + " record Q { a : R ; b : ^r ; }")
        self.assert_told(record(field(NUMBER), "Q") + record(field("Q") + field("many 2 Q", "b")), 1, 3)


class Bounds(LoadCase):
    def test_values(self):
        self.assert_told(record(field("from -1000000 to 1000000")), 1)
        self.assert_told(record(field("from - 1000000 to -1000000")), 1)
        self.assert_told(record(field("from 1000000 to 1000000")), 1)
        self.assert_fault_in_field(7, "from 0 to ^1000001")
        self.assert_fault_in_field(7, "from ^1000001 to 0")
        self.assert_fault_in_field(7, "from -^1000001 to 0")
        self.assert_fault_in_field(7, "from - ^1000001 to 0")
        self.assert_fault_in_field(7, "from 0 to -^1000001")
        self.assert_fault_in_field(7, "from 0 to ^1000000000 at")

    def test_the_last_value_is_not_below_the_first(self):
        self.assert_told(record(field("from 5 to 5")), 1)
        self.assert_told(record(field("from -5 to -5")), 1)
        self.assert_told(record(field("from -5 to 3")), 1)
        self.assert_fault_in_field(7, "from 5 to ^4")
        self.assert_fault_in_field(7, "from 1 to ^0 at 3")
        self.assert_fault_in_field(7, "from 10 to ^9 ;")
        self.assert_fault_in_field(7, "from 0 to -^1")
        self.assert_fault_in_field(7, "from -5 to - ^6")

    def test_alignments(self):
        for align in (1, 2, 4, 8, 16, 32):
            self.assert_told(record(field("from 0 to 1 at " + str(align))), 1)
        for align in (0, 3, 5, 6, 7, 9, 12, 15, 17, 24, 31, 33, 64, 128, 1000000000):
            self.assert_fault_in_field(7, "from 0 to 1 at ^" + str(align))

    def test_how_often(self):
        for times in range(1, 9):
            self.assert_told(record(field("many " + str(times) + " from 0 to 1")), times)
        for times in (0, 9, 10, 1000000000):
            self.assert_fault_in_field(7, "many ^" + str(times) + " from 0 to 1")
            self.assert_fault_in_field(7, "many ^" + str(times))

    def test_how_hot(self):
        for hot in (1, 2, 999, 1000):
            self.assert_told(record(field("from 0 to 1 hot " + str(hot))), 1)
        for hot in (0, 1001, 1000000000):
            self.assert_fault_in_field(7, "from 0 to 1 hot ^" + str(hot))
            self.assert_fault_in_field(7, "maybe from 0 to 1 at 8 hot ^" + str(hot) + " hot")


class Leaves(LoadCase):
    def test_24_leaves(self):
        self.assert_told(record(" ".join([field(NUMBER, "f" + str(number)) for number in range(24)])), 24)
        self.assert_told(record(field("many 8 many 3 from 0 to 1")), 24)
        self.assert_told(record(field("many 8 one { x : from 0 to 1 , y : from 0 to 1 }")), 24)
        self.assert_told(record(field("many 4 maybe many 5 from 0 to 1")), 24)

    def test_25_leaves(self):
        fields = " ".join([field(NUMBER, "f" + str(number)) for number in range(25)])
        self.assert_fault(15, "^" + record(fields))
        self.assert_fault(15, " # x\n ^" + record(field("many 8 many 3 from 0 to 1") + field(NUMBER, "b")))
        self.assert_fault(15, "^" + record(field("many 5 many 5 from 0 to 1")))
        self.assert_fault(15, "^" + record(field("maybe many 8 many 3 from 0 to 1")))
        choice = "one { x : maybe from 0 to 1 , y : from 0 to 1 , z : from 0 to 1 }"
        self.assert_fault(15, "^" + record(field("many 5 " + choice)))
        before = record(field("many 8 many 3 from 0 to 1"), "Q")
        self.assert_told(before + record(field("Q")), 24, 24)
        self.assert_fault(15, before + " ^" + record(field("maybe Q")))
        self.assert_fault(15, before + " ^" + record(field("Q") + field(NUMBER, "b")))

    def test_very_many_leaves(self):
        before = record(field("many 8 many 3 from 0 to 1"), "Q")
        fields = " ".join([field("many 8 " * 5 + "Q", "f" + str(number)) for number in range(60)])
        self.assert_fault(15, before + " ^" + record(fields))

    def test_it_is_told_once_the_closing_brace_has_been_read(self):
        many = field("many 8 many 8 from 0 to 1")
        self.assert_fault(3, "record R { " + many + " ^")
        self.assert_fault(3, "record R { " + many + " ^;")
        self.assert_fault(5, "record R { " + many + " ^a : from 0 to 1 ; }")
        self.assert_fault(6, "record R { " + many + " b : ^Q ; }")
        self.assert_fault(7, "record R { " + many + " b : from 1 to ^0 ; }")
        self.assert_fault(15, "^record R { " + many + " } }")
        self.assert_fault(15, "^record R { " + many + " } record R { }")
        self.assert_fault(2, "record R { " + many + " } ^?")

    def test_how_many_each_record_has(self):
        rng = random.Random(1)
        for _ in range(300):
            records = random_records(rng, 24)
            self.assert_told(one_form(records), *[len(leaves_of(records, r)) for r in range(len(records))])
            self.assert_told(tight_text(records), *[len(leaves_of(records, r)) for r in range(len(records))])


class OneForm(LoadCase):
    def assert_length_decides(self, records):
        for length in (4095, 4096, 4097, 4098, 4150):
            grown = drawn_out(records, length)
            self.assertEqual(len(one_form(grown)), length)
            text = tight_text(grown)
            self.assertLessEqual(len(text), 4096)
            if length <= 4096:
                counts = [len(leaves_of(grown, r)) for r in range(len(grown))]
                self.assertEqual(loaded(text), [1, len(grown)] + counts)
            else:
                self.assertEqual(loaded(text), [0, 16, 0])

    def test_plain_numbers(self):
        fields = [("f" + str(number), ("from", 0, 1, 1), 1) for number in range(24)]
        self.assert_length_decides([("R" + str(r), fields) for r in range(6)])

    def test_numbers_below_0_and_aligned_and_hot(self):
        fields = [("f" + str(number), ("from", -30, -number, 8), 1 + number) for number in range(12)]
        fields += [("g" + str(number), ("from", -30, number, 1), 7) for number in range(6)]
        self.assert_length_decides([("R" + str(r), fields) for r in range(6)])

    def test_all_that_a_field_may_hold(self):
        number = ("from", -100000, 100000, 16)
        maybe = ("maybe", ("from", -100000, 0, 2))
        choice = ("one", [("first".ljust(16, "1"), number), ("second".ljust(16, "2"), maybe)])
        fields = [("f" + str(k), choice, 1) for k in range(4)]
        fields += [("g" + str(k), ("many", 1, ("named", 0)), 1000) for k in range(8)]
        self.assert_length_decides([("R0", [("a", number, 1)])] + [("R" + str(r), fields) for r in range(1, 6)])

    def test_what_is_left_out_does_not_count(self):
        fields = [("f" + str(number), ("from", 0, 1, 1), 1) for number in range(22)]
        records = drawn_out([("R" + str(r), fields) for r in range(6)], 4096)
        text = tight_text(records)
        told = [1, 6] + [22] * 6
        self.assertEqual(loaded(text.replace(";", "at 1;", 8)), told)
        self.assertEqual(loaded(text.replace(";", "hot 1;", 8)), told)
        self.assertEqual(loaded(text.replace(";", "hot 2;", 1)), [0, 16, 0])
        self.assertEqual(loaded(text.replace(";", "at 2;", 1)), [0, 16, 0])
        self.assertEqual(loaded("# x\n\n" + text.replace(":", " : ", 9)), told)

    def test_it_is_told_after_all_others(self):
        fields = [("f" + str(number), ("from", 0, 1, 1), 1) for number in range(24)]
        text = tight_text(drawn_out([("R" + str(r), fields) for r in range(6)], 4200))
        self.assertEqual(loaded(text), [0, 16, 0])
        self.assertEqual(loaded(text + "}"), [0, 3, len(text)])
        self.assertEqual(loaded(text + "record"), [0, 4, len(text)])
        self.assertEqual(loaded(text + "?"), [0, 2, len(text)])


def drawn_out(records, length):
    """The same records with the fields' names made longer, so that the one form has just so many bytes."""
    missing = length - len(one_form(records))
    grown = []
    for name, fields in records:
        longer = []
        for field_name, shape, hot in fields:
            added = max(0, min(missing, 16 - len(field_name)))
            missing -= added
            longer.append((field_name.ljust(len(field_name) + added, "x"), shape, hot))
        grown.append((name, longer))
    return grown


class WhatIsHeld(LoadCase):
    def test_a_load_that_fails_leaves_what_was_held(self):
        asked = [fit(0, 0, [0, 1, 2, 3, 4]), least(1, 8), rule(0, 0), rule(2, 0)]
        before = ask(load(WORKED), *asked)
        too_many = record(field("many 5 many 5 from 0 to 1"))
        for text in ("", "?", "x" * 4097, "record R { a : from 0 to 1 ; } record", too_many):
            told = ask(load(WORKED), load(text), *asked)
            self.assertEqual(told[1][0], 0)
            self.assertEqual(told[2:], before[1:])

    def test_a_load_that_fails_at_first_leaves_none(self):
        self.assertEqual(ask(load("record R { }"), rule(0, 0)), [[0, 3, 11], [-1]])

    def test_a_load_that_succeeds_replaces_it(self):
        other = "record S { a : from 0 to 3 ; }"
        told = ask(load(WORKED), load(other), rule(0, 0), least(0, 0), rule(1, 0), load(WORKED), rule(1, 0))
        self.assertEqual(told[1:5], [[1, 1, 1], [2, 2, 1, 0], [2, 1, 0], [-2]])
        self.assertEqual(told[5:], [[1, 2, 5, 2], [11, 11, 2, 10, 0]])

    def test_names_of_an_earlier_text_are_not_known(self):
        self.assertEqual(ask(load(WORKED), load("record S { a : R ; }")), [[1, 2, 5, 2], [0, 6, 15]])
        self.assertEqual(ask(load(WORKED), load("record R { a : from 0 to 1 ; }"))[1], [1, 1, 1])
