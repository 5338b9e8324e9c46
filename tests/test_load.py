"""Point 1: load, its texts and their first faults."""

from tests.helper import HUGE, LineTest, fill, list_, load, new, row, set_


class LoadTest(LineTest):

    def check_good(self, text, tables, columns):
        self.check((load(text), [0, tables, columns]))

    def check_fault(self, text, kind, place):
        self.check((load(text), [1, kind, place]))

    def check_fault_at(self, text, kind):
        """The place of the fault is that of the first @, which is taken out."""
        self.check_fault(text.replace("@", "", 1), kind, text.index("@"))

    def check_column(self, text, kind):
        """As check_fault_at, for what stands within a table p."""
        self.check_fault_at("table p { " + text, kind)


class Schemas(LoadTest):

    def test_the_empty_text_has_no_tables(self):
        self.check_good("", 0, 0)
        self.check_good(" \t\r\n # nothing", 0, 0)

    def test_a_table_may_have_no_columns(self):
        self.check_good("table p {}", 1, 0)
        self.check_good("table p { } table q { a: number; }", 2, 1)

    def test_each_kind_of_column(self):
        self.check_good("table p { a: number; b: number from 0 to 9; c: number unique; d: number from -9 to -3 unique; }", 1, 4)
        self.check_good("table p { a: ref p; b: ref p none; c: ref p cascade; d: ref p unique; }", 1, 4)
        self.check_good("table p { a: ref p none cascade; b: ref p none clear; c: ref p none unique; "
                        "d: ref p none clear unique; } table q { a: ref p cascade unique; b: ref p none cascade unique; }", 2, 6)

    def test_4_tables_with_4_columns(self):
        columns = "{ a: number; b: number; c: number; d: number; }"
        self.check_good(" ".join("table " + name + columns for name in "pqrs"), 4, 16)

    def test_references_to_earlier_own_and_later_tables(self):
        self.check(
            (load("table p { a: ref q none; } table q { b: ref q none; c: ref p none; }"), [0, 2, 3]),
            (fill(1, 5, 7, 1, 7, 7, 5), [0]),
            (list_(1, 7, 0, 0), [0, 1, 5]),
            (list_(1, 7, 1, 0), [0, 1, 7]),
            (list_(0, 5, 1, 1), [0, 1, 7]),
            (list_(0, 5, 0, 0), [-8]),
            (list_(0, 5, 1, 0), [-8]),
        )

    def test_a_column_may_be_called_as_a_table_is(self):
        self.check_good("table p { p: ref p; q: number; } table q { p: ref q; }", 2, 3)

    def test_names_may_have_digits_and_underlines(self):
        self.check_good("table p_1 { a__: number; a9z_: ref p_1; }", 1, 2)

    def test_names_may_begin_as_words_of_the_language_do(self):
        self.check_good("table tables { number1: number; from_: number; to2: ref tables none; cleared: number; }", 1, 4)

    def test_tokens_may_stand_without_blanks(self):
        self.check_good("table p{a:number from-9to-3unique;b:ref p none clear unique;}table q{}", 2, 2)

    def test_each_blank_parts_tokens(self):
        self.check_good("table\tp\n{\ra : number\tfrom\n0\rto 9 ; }", 1, 1)

    def test_remarks_part_tokens(self):
        self.check_good("table#p {\nq#: ; \x00\xff A 00\r}\n{#\n}# table", 1, 0)

    def test_a_remark_ends_at_byte_10_alone(self):
        self.check_fault("table p { # }\r}", 4, 15)
        self.check_good("table p { # }\n}", 1, 0)

    def test_a_number_ends_where_no_digit_stands(self):
        self.check_good("table p { a: number from 1to 2unique; }", 1, 1)

    def test_ranges(self):
        self.check_good("table p { a: number from -1000000 to 1000000; b: number from 0 to 0; c: number from -0 to 0; "
                        "d: number from 0 to -0; }", 1, 4)

    def test_a_range_holds_its_ends_alone(self):
        text = load("table p { a: number from -3 to 4; }")
        self.check((text, [0, 1, 1]), (fill(2, 1, -3, 2, 4), [0]), (fill(1, 1, -4), [1, 2, 0, 1, 0]),
                   (fill(1, 1, 5), [1, 2, 0, 1, 0]))

    def test_without_a_range_all_values_are_held(self):
        self.check((load("table p { a: number; }"), [0, 1, 1]), (fill(2, 1, -1000000, 2, 1000000), [0]))

    def test_4096_bytes(self):
        text = "table p { a: number; }"
        self.check_good(text + " " * (4096 - len(text)), 1, 1)
        self.check_fault(text + " " * (4095 - len(text)) + "?", 1, 4095)
        self.check_fault("table p {" + " " * 4087, 4, 4096)


class Refusals(LoadTest):

    def test_what_is_no_byte(self):
        for number in (-1, 256, HUGE, -HUGE):
            self.check((load([number]), [-1]))
            self.check((load([32] * 4999 + [number]), [-1]))

    def test_0_and_255_are_bytes(self):
        self.check_fault([0], 1, 0)
        self.check_fault([255], 1, 0)

    def test_a_text_that_is_too_long(self):
        self.check((load([32] * 4096), [0, 0, 0]))
        self.check((load([32] * 4097), [-2]))
        self.check((load([0] * 5000), [-2]))

    def test_no_byte_is_told_ahead_of_too_long(self):
        self.check((load([32] * 4097 + [256]), [-1]))
        self.check((load([-1] + [32] * 4096), [-1]))


class Faults(LoadTest):

    def test_1_at_bytes_that_begin_no_token(self):
        for byte in [0, 11, 12, 31, 127, 128, 160, 255] + list(b"!\"$%&'()*+,./<=>?@[\\]^_`|~AZ"):
            self.check_fault(list(b"table p { ") + [byte], 1, 10)
            self.check_fault([byte], 1, 0)

    def test_1_behind_a_word_or_number(self):
        self.check_column("a@B: number;", 1)
        self.check_column("a: number from 1@.", 1)
        self.check_column("a: number from 1@_", 1)

    def test_2_words_of_12_and_13_bytes(self):
        self.check_good("table abcdefghi_12 { zyxwvutsrq_9: ref abcdefghi_12; }", 1, 1)
        self.check_fault_at("table @abcdefghi_123 {}", 2)
        self.check_column("@abcdefghijklm: number;", 2)
        self.check_column("a: ref @abcdefghijklm;", 2)

    def test_2_numbers(self):
        for number in ("00", "01", "0000000", "00000000", "1000001", "9999999", "10000000", "01000000"):
            self.check_column("a: number from @" + number + " to 5;", 2)
            self.check_column("a: number from -@" + number + " to 5;", 2)
            self.check_column("a: number from 0 to @" + number + ";", 2)
        self.check_column("a: number from @" + "9" * 4000 + " to 5;", 2)

    def test_2_good_numbers(self):
        for number in ("0", "1", "10", "999999", "1000000"):
            self.check_good("table p { a: number from -" + number + " to " + number + "; }", 1, 1)

    def test_1_and_2_count_even_where_that_token_could_not_stand(self):
        self.check_fault_at("@abcdefghijklm", 2)
        self.check_fault_at("@00", 2)
        self.check_fault_at("table p @007", 2)
        self.check_fault_at("table p {} @Table", 1)

    def test_1_and_2_count_only_when_all_before_may_stand(self):
        self.check_fault_at("table @{ ?", 3)
        self.check_fault_at("table p { a: number from 0 to 9 @to 00", 3)
        self.check_fault_at("table p {} table @p ?", 6)
        self.check_column("a: number from 3 to @2?", 8)
        self.check_column("a: ref p @clear?", 8)

    def test_3_what_can_not_begin_a_table(self):
        for text in ("p", "}", "{", ";", ":", "-", "7", "ref", "tables"):
            self.check_fault_at("@" + text, 3)
            self.check_fault_at("table q {} @" + text, 3)

    def test_3_words_that_are_no_names(self):
        for word in ("table", "number", "from", "to", "ref", "none", "cascade", "clear", "unique"):
            self.check_fault_at("table @" + word + " {}", 3)
            self.check_column("@" + word + ": number; }", 3)
            self.check_column("a: ref @" + word + "; }", 3)

    def test_3_where_a_name_must_stand(self):
        for text in ("7", "-", ":", ";", "{"):
            self.check_fault_at("table @" + text, 3)
            self.check_column("@" + text, 3)
            self.check_column("a: ref @" + text, 3)
        self.check_fault_at("table @}", 3)

    def test_3_signs_that_are_missing(self):
        self.check_fault_at("table p @a", 3)
        self.check_fault_at("table p @}", 3)
        self.check_column("a @number;", 3)
        self.check_column("a: number @}", 3)
        self.check_column("a: number unique @}", 3)
        self.check_column("a: number; @; }", 3)
        self.check_column("a: ref p @}", 3)

    def test_3_kinds(self):
        for text in ("p", "unique", "from", "none", ";", "7", "numbers"):
            self.check_column("a: @" + text, 3)

    def test_3_behind_number(self):
        for text in ("to", "none", "cascade", "clear", "number", "b", "7", "-", ":", "unique @unique", "unique @from"):
            text = text if "@" in text else "@" + text
            self.check_column("a: number " + text, 3)

    def test_3_within_a_range(self):
        self.check_column("a: number from @to 3;", 3)
        self.check_column("a: number from @;", 3)
        self.check_column("a: number from -@-3 to 3;", 3)
        self.check_column("a: number from -@a", 3)
        self.check_column("a: number from 3 @3;", 3)
        self.check_column("a: number from 3 @;", 3)
        self.check_column("a: number from 3 to @;", 3)
        self.check_column("a: number from 3 to -@;", 3)
        self.check_column("a: number from 3 to 4 @5;", 3)
        self.check_column("a: number from 3 to 4 @from", 3)

    def test_3_behind_ref(self):
        self.check_column("a: ref p @number;", 3)
        self.check_column("a: ref p @p;", 3)
        self.check_column("a: ref p none @none;", 3)
        self.check_column("a: ref p cascade @none;", 3)
        self.check_column("a: ref p cascade @cascade;", 3)
        self.check_column("a: ref p cascade @clear;", 3)
        self.check_column("a: ref p none clear @cascade;", 3)
        self.check_column("a: ref p none clear @clear;", 3)
        self.check_column("a: ref p unique @none;", 3)
        self.check_column("a: ref p unique @cascade;", 3)
        self.check_column("a: ref p unique @clear;", 3)
        self.check_column("a: ref p @from", 3)

    def test_4_at_the_text_s_length(self):
        text = "table p { a: number from - 3 to - 2 unique ; b: ref p none clear unique ; }"
        tokens = text.split(" ")
        for many in range(1, len(tokens)):
            part = " ".join(tokens[:many])
            self.check_fault(part, 4, len(part))
        self.check_good(text, 1, 2)

    def test_4_behind_blanks_and_remarks(self):
        self.check_fault_at("table  \n@", 4)
        self.check_fault_at("table p { # }@", 4)
        self.check_fault_at("table p { # }\n@", 4)

    def test_4_within_references(self):
        for text in ("a: ref", "a: ref p", "a: ref p none", "a: ref p none clear", "a: ref p cascade", "a: ref p unique"):
            self.check_column(text + "@", 4)

    def test_5_a_fifth_table(self):
        four = "table p {} table q {} table r {} table s {} "
        self.check_good(four + "# table t", 4, 0)
        self.check_fault_at(four + "@table", 5)
        self.check_fault_at(four + "@table p", 5)
        self.check_fault_at(four + "@table ?", 5)
        self.check_fault_at(four + "@tables", 3)
        self.check_fault_at(four + "@}", 3)
        self.check_fault_at(four + "@?", 1)
        self.check_fault_at(four + "@00", 2)

    def test_5_a_fifth_column_whatever_stands_there(self):
        four = "a: number; b: number; c: number; d: number; "
        for text in ("e: number;", "a: number;", "table", "7", "00", "abcdefghijklm", "?", "\xff", ";", "{", "-", ":", "", "# }"):
            self.check_column(four + ("@" + text if text != "# }" else text + "@"), 5)
        self.check_good("table p { " + four + "}", 1, 4)
        self.check_good("table p { " + four + "# e\n }", 1, 4)

    def test_5_columns_are_counted_in_each_table(self):
        self.check_fault_at("table p { a: number; } table q { a: number; b: number; c: number; d: number; @e", 5)
        self.check_good("table p { a: number; b: number; c: number; } table q { a: number; b: number; }", 2, 5)

    def test_6_a_table_s_name(self):
        self.check_fault_at("table p {} table @p", 6)
        self.check_fault_at("table p {} table q {} table @p {}", 6)
        self.check_fault_at("table p {} table q {} table @q {}", 6)

    def test_6_a_column_s_name(self):
        self.check_column("a: number; @a", 6)
        self.check_column("a: number; b: number; @a: number; }", 6)
        self.check_good("table p { a: number; } table q { a: number; }", 2, 2)

    def test_7_a_name_that_no_table_has(self):
        self.check_column("a: ref @q; }", 7)
        self.check_column("a: ref p; b: ref @q; c: ref r; }", 7)
        self.check_column("a: ref q; a2: ref @a; } table q { b: ref z; }", 7)
        self.check_fault_at("table p { a: ref q; } table q { b: ref @pq; }", 7)

    def test_7_only_if_there_is_no_other_fault(self):
        self.check_column("a: ref q; } @?", 1)
        self.check_column("a: ref q; } @00", 2)
        self.check_column("a: ref q; } @q", 3)
        self.check_column("a: ref q; @", 4)
        self.check_column("a: ref q; b: number; c: number; d: number; @e", 5)
        self.check_column("a: ref q; } table @p", 6)
        self.check_column("a: ref q; b: number from 1 to @0; }", 8)

    def test_8_a_range_that_holds_nothing(self):
        self.check_column("a: number from 1 to @0;", 8)
        self.check_column("a: number from 0 to @-1;", 8)
        self.check_column("a: number from -3 to @- # x\n 4;", 8)
        self.check_column("a: number from 1000000 to @-1000000;", 8)
        self.check_column("a: number from 10 to @9", 8)

    def test_8_clear_where_none_is_not_allowed(self):
        self.check_column("a: ref p @clear; }", 8)
        self.check_column("a: ref q @clear unique", 8)

    def test_the_first_fault_is_told(self):
        self.check_column("a: ref p @clear; a: number from 3 to 2; ?", 8)
        self.check_column("a: number; @a: number from 3 to 2; ?", 6)
        self.check_column("a: number from @00 to", 2)


class WhatIsHeld(LoadTest):

    def test_tables_have_no_rows(self):
        self.check((load("table p { a: number; }"), [0, 1, 1]), (row(0, 1), [-5]), (new(0, 3), [0, 100]))

    def test_a_text_with_a_fault_leaves_all_as_it_was(self):
        for text, answer in (("table p { a: number; } ?", [1, 1, 23]), ([256], [-1]), ([32] * 4097, [-2])):
            self.check(
                (load("table p { a: number; b: number; }"), [0, 1, 2]),
                (fill(1, 7, 1, 2), [0]),
                (new(0, 3, 4), [0, 100]),
                (load(text), answer),
                (row(0, 7), [0, 0, 1, 2]),
                (row(0, 100), [0, 1, 3, 4]),
                (new(0, 5, 6), [0, 101]),
            )

    def test_load_begins_anew(self):
        self.check(
            (load("table p { a: number; } table q {}"), [0, 2, 1]),
            (fill(1, 7, 1, 1, 7), [0]),
            (new(0, 3), [0, 100]),
            (load("table p { a: number; }"), [0, 1, 1]),
            (row(0, 7), [-5]),
            (row(0, 100), [-5]),
            (row(1, 7), [-3]),
            ([5, 0, 7], [-5]),
            (new(0, 4), [0, 100]),
            (set_(0, 100, 0, 5), [0]),
            (load(""), [0, 0, 0]),
            (row(0, 100), [-3]),
        )
