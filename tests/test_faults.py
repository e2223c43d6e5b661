"""Point 5: the kind and the place of the fault of a text.

In the marked texts, @ stands ahead of the token that has the fault, or at the end of the text.
"""

import unittest

from gatesread.errors import InvalidNetlist
from gatesread.reader import find_fault, read_netlist
from gatesread.tokens import split_tokens

RESERVED = "in out not and or nand nor xor mux zero one latch".split()
KINDS = RESERVED[2:]
ZEROS = "".join(f"g{k} = zero;" for k in range(40))
ZEROS_36 = ZEROS[:ZEROS.index("g36")]
LATCHES = "".join(f"l{k} = latch l{k};" for k in range(4))


class FaultTest(unittest.TestCase):
    def check_fault(self, text, kind, place):
        with self.subTest(text):
            self.assertEqual(find_fault(text), (kind, place))
            with self.assertRaises(InvalidNetlist) as caught:
                read_netlist(text)
            self.assertEqual((caught.exception.kind, caught.exception.place), (kind, place))

    def check(self, kind, marked):
        self.check_fault(marked.replace("@", ""), kind, marked.index("@"))

    def check_all(self, kind, marked_texts):
        for marked in marked_texts:
            self.check(kind, marked)

    def check_good(self, text):
        with self.subTest(text):
            self.assertIsNone(find_fault(text))


class SyntaxTest(FaultTest):
    def test_bad_tokens(self):
        for bad in ("A", "_", "&", "~", "(", "1", "1a", "abcdefghi", "0123456789", ",", "."):
            self.check("syntax", f"@{bad}")
            self.check("syntax", f"in @{bad} a; out a;")
            self.check("syntax", f"in a @{bad}; out a;")
            self.check("syntax", f"in a; @{bad} = zero; out a;")
            self.check("syntax", f"in a; b @{bad} zero; out a;")
            self.check("syntax", f"in a; b = @{bad}; out a;")
            self.check("syntax", f"in a; b = and a @{bad}; out a;")
            self.check("syntax", f"in a; b = not a @{bad}; out a;")
            self.check("syntax", f"in a; out @{bad};")
            self.check("syntax", f"in a; out a; @{bad}")

    def test_at_directly_behind_a_word(self):
        self.check_fault("in a@; out a;", "syntax", 4)

    def test_start_of_a_statement(self):
        for token in [";", "="] + KINDS:
            self.check("syntax", f"@{token}")
            self.check("syntax", f"in a; @{token} = zero; out a;")
            self.check("syntax", f"in a; out a; @{token}")

    def test_statements_without_names(self):
        self.check_all("syntax", ["in @;", "out @;", "in a; in @; out a;", "in a; out a; out @;"])

    def test_behind_in_and_out(self):
        for token in ["="] + RESERVED:
            self.check("syntax", f"in @{token} a; out a;")
            self.check("syntax", f"in a @{token}; out a;")
            self.check("syntax", f"in a; out @{token} a;")
            self.check("syntax", f"in a; out a @{token};")

    def test_behind_the_name_of_a_gate(self):
        for token in [";", "a", "x", "y"] + RESERVED:
            self.check("syntax", f"in a; x @{token} = not a; out a;")

    def test_behind_the_sign_of_a_gate(self):
        for token in [";", "=", "a", "x", "y", "in", "out"]:
            self.check("syntax", f"in a; x = @{token} a; out a;")

    def test_inputs_of_a_gate(self):
        for token in ["="] + RESERVED:
            for kind in KINDS:
                self.check("syntax", f"in a; x = {kind} @{token}; out a;")
            self.check("syntax", f"in a; x = not a @{token}; out a;")
            self.check("syntax", f"in a; x = xor a @{token}; out a;")

    def test_no_second_end(self):
        self.check_all("syntax", ["in a;@; out a;", "x = one;@;", "in a; out a;@;"])

    def test_a_missing_end(self):
        self.check_all("syntax", ["in a @out a;", "in a; x = not a @out a;", "in a; out a @in b;"])
        self.check("syntax", "in a; x = and a y @= not a; out x;")

    def test_end_without_a_token(self):
        self.check_all("syntax", ["@", " @", "\n@", " \n \n@"])

    def test_end_without_an_output(self):
        self.check_all("syntax", ["in a;@", "in a;\n@", "x = zero;@", "in a; x = not a; \n @"])

    def test_end_in_a_statement(self):
        self.check_all("syntax", ["in@", "in a@", "in a\n@", "out@", "in a; out a@", "in a; x@"])
        self.check_all("syntax", ["in a; out a; in @", "in a; out a; x@", "in a; out a; x = @"])
        self.check_all("syntax", ["in a; out a; x = and@", "in a; out a; x = and a@"])
        self.check_all("syntax", ["in a; out a; x = and a a\n@", "in a; out a; x = one@"])


class CutTest(FaultTest):
    def test_cut_at_every_token(self):
        text = "in a b; x = and a b; y = latch x; z = mux a b y; w = zero; in c;\nout z x c w;"
        for place, token in split_tokens(text):
            for cut in (text[:place], text[:place] + "\n", text[:place].rstrip()):
                self.check_fault(cut, "syntax", len(cut))
        self.check_good(text)

    def test_cut_with_the_output_first(self):
        text = "out y; in a; y = not a; z = or a y; l = latch z; in b;"
        declared = text.index("z =")
        for place, token in split_tokens(text):
            cut = text[:place]
            if not cut.endswith("; "):
                self.check_fault(cut, "syntax", place)
            elif place < declared:
                self.check_fault(cut, "name", 4)
            else:
                self.check_good(cut)

    def test_cut_in_a_kind(self):
        self.check("syntax", "in a; out a; x = @nan")
        self.check("syntax", "in a; out a; x = @latc")


class NameTest(FaultTest):
    def test_declared_again_as_an_input(self):
        self.check_all("name", ["in a @a;", "in a b @a; out a;", "in a; in @a; out a;"])
        self.check_all("name", ["x = zero; in @x; out x;", "x = zero; in a @x; out x;"])

    def test_declared_again_as_a_gate(self):
        self.check_all("name", ["in a; @a = zero; out a;", "x = zero; @x = zero; out x;"])
        self.check("name", "x = zero; y = zero; z = zero; @y = one; out x;")

    def test_a_gate_is_declared_whatever_follows(self):
        for rest in ("", ";", " =", " = ;", " = and", " a", " = A", " = latch a;"):
            self.check("name", "in a; out a; @a" + rest)

    def test_its_own_declaration_is_no_second_one(self):
        self.check_good("out x; y = not x; x = zero;")

    def test_never_declared(self):
        self.check_all("name", ["out @a;", "in a; out a @b;", "in a; out a; x = not @b;"])
        self.check_all("name", ["in a; x = latch @y; out x;", "in a; x = and a @y; out x;"])
        self.check("name", "in a; x = mux a a @y; out x;")

    def test_first_use_of_those_never_declared(self):
        self.check("name", "in a; out a @c b; x = not b; y = not d;")
        self.check("name", "in a; x = or @d c; y = and c b; out b;")
        self.check("name", "out x; in a; x = nand a y @b; y = not b; out b b;")
        self.check("name", "out @ab; a = zero; b = one; x = or a ba;")

    def test_names_are_not_kinds_of_statements(self):
        self.check("name", "in a; out @inn;")


class CountTest(FaultTest):
    def test_too_few_inputs(self):
        for kind in ("not", "latch", "and", "or", "nand", "nor", "xor", "mux"):
            self.check("count", f"in a; x = {kind} @;")
            self.check("count", f"in a; out a; x = {kind}@; y = zero;")
        for kind in ("and", "or", "nand", "nor", "xor", "mux"):
            self.check("count", f"in a; x = {kind} a @; out a;")
        self.check("count", "in a; x = mux a a @; out a;")

    def test_too_many_inputs(self):
        most = {"zero": 0, "one": 0, "not": 1, "latch": 1, "xor": 2}
        most.update({"and": 3, "or": 3, "nand": 3, "nor": 3, "mux": 3})
        for kind, count in most.items():
            names = " ".join(["a"] * count)
            self.check("count", f"in a; x = {kind} {names} @a; out x;")
            self.check("count", f"in a; x = {kind} {names} @a a a; out x;")
            self.check("count", f"in a; x = {kind} {names} @b")

    def test_reserved_words_and_signs_are_no_inputs(self):
        self.check_all("syntax", ["in a; x = not a @or;", "in a; x = zero @one;"])
        self.check_all("syntax", ["in a; x = not a @=;", "in a; x = zero @=;"])
        self.check_all("syntax", ["in a; x = and @=;", "in a; x = and a @out a;"])


class FullTest(FaultTest):
    def test_a_seventh_input(self):
        self.check("full", "in a b c d e f @g; out a;")
        self.check("full", "in a b c; x = zero; in d e f; in @g; out a;")
        self.check("full", "in a b c d e; out a; in f @g h i;")

    def test_a_seventh_output(self):
        self.check("full", "in a; out a a a a a a @a;")
        self.check("full", "in a; out a a a; out a a; out a; out @a;")
        self.check("full", "in a b; out a b; out a b a b @b b")

    def test_a_41st_gate(self):
        self.check("full", ZEROS + "@x = one; out x;")
        self.check("full", "in a; out a;" + ZEROS + "@x")
        self.check("full", LATCHES + ZEROS_36 + "@h = latch l0; out h;")
        self.check("full", ZEROS + "@x; out g0;")

    def test_a_fifth_latch(self):
        self.check("full", LATCHES + "x = @latch l0; out x;")
        self.check("full", LATCHES + "y = zero; out y; x = @latch")
        self.check("full", LATCHES + "y = zero; x = @latch ;")

    def test_other_gates_are_no_latches(self):
        self.check_good(LATCHES + ZEROS_36 + "out l0;")

    def test_inputs_are_no_gates(self):
        self.check_good("in a b c d e f;" + ZEROS + "out a b c d e f;")


class RingTest(FaultTest):
    def test_rings(self):
        self.check("ring", "@x = not x; out x;")
        self.check("ring", "in a; @x = and a y; y = or x a; out a;")
        self.check("ring", "in a; @x = xor a z; y = nand a x; z = mux y a a; out a;")
        self.check("ring", "in a; @x = mux a a x; out a;")

    def test_place_of_the_declaration(self):
        self.check("ring", "out x; y = not z; in a; @x = nor a x; z = zero;")
        self.check("ring", "out y; @z = not y; x = not y; w = not x; y = or x z;")

    def test_gates_beside_a_ring_do_not_depend_on_themselves(self):
        self.check("ring", "in a; w = not x; v = and w a; @x = and y a; y = not x; out w;")
        self.check("ring", "in a; p = not a; @x = and y p; y = and x p; out x;")
        self.check("ring", "w = not y; @y = not z; z = not y; out w;")

    def test_first_gate_of_two_rings(self):
        self.check("ring", "in a; @p = not q; x = not x; q = not p; out a;")
        self.check("ring", "in a; @x = not x; p = not q; q = not p; out a;")

    def test_a_latch_depends_on_nothing(self):
        self.check_good("x = not l; l = latch x; out x;")
        self.check_good("l = latch m; m = latch x; x = and l m; out l;")
        self.check("ring", "l = latch x; @x = or l x; out l;")
        self.check("ring", "l = latch y; @x = or l y; y = not x; out l;")

    def test_rings_that_no_output_needs(self):
        self.check("ring", "in a; out a; @x = not x;")

    def test_meeting_paths_are_no_ring(self):
        self.check_good("in a; w = xor x y; x = not z; y = not z; z = not a; out w;")
        self.check_good("x = not y; y = and z z z; z = zero; out x;")


class OrderTest(FaultTest):
    def test_syntax_ahead_of_the_others_at_one_token(self):
        self.check("syntax", "in a b c d e f @or; out a;")
        self.check("syntax", "in a b c d e f @1g; out a;")
        self.check("syntax", "in a; out a a a a a a @not;")
        self.check("syntax", "in a; x = not a @B;")
        self.check("syntax", "in a; x = not a @latch;")
        self.check("syntax", ZEROS + "@zero = one;")
        self.check("syntax", ZEROS + "@X = one;")
        self.check("syntax", LATCHES + "x = @latches l0;")

    def test_name_ahead_of_full(self):
        self.check("name", "in a b c d e f @c; out a;")
        self.check("name", "in a b c d e f; in @a; out a;")
        self.check("name", ZEROS + "@g7 = one; out g0;")
        self.check("name", "in a;" + ZEROS + "@a")

    def test_the_first_token_with_a_fault(self):
        self.check("name", "in a @a b c d e f; out A;")
        self.check("full", "in a b c d e f @g a; out;")
        self.check("count", "in a; x = not a @a; a = zero; out")
        self.check("count", "in a; x = and a @; y = B;")
        self.check("syntax", "in a; x @x = not a a; in a;")
        self.check("full", "in a; out a a a a a a @b; a = zero;")
        self.check("name", ZEROS + "@g0 = latch; h = zero;")
        self.check("full", LATCHES + "x = @latch; l0 = zero;")

    def test_faults_of_tokens_ahead_of_those_of_the_whole(self):
        self.check("name", "x = not x; out y; @x")
        self.check("count", "out y; x = not x @x")
        self.check("syntax", "x = not y; @;")
        self.check("full", "out p q r s t u @v")

    def test_syntax_at_the_end_ahead_of_name_and_ring(self):
        self.check("syntax", "out y@")
        self.check("syntax", "x = not y;@")
        self.check("syntax", "x = not x;\n@")
        self.check("syntax", "out x; x = not x; y = not@")

    def test_name_ahead_of_ring(self):
        self.check("name", "x = not x; out x; y = not @z;")
        self.check("name", "x = not x; out x @y;")


if __name__ == "__main__":
    unittest.main()
