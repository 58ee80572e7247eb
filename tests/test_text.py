"""Which texts are a case's and which aren't."""

import unittest

from asking import CALLS
from reference import fault
from rulechange.desk import with_of

BASE = "law fact: -> p\nrule a: p => q\nrule b: ~q, p => ~q\nweigh a > b\n"
LONG = "abcdefghijklmno"
TOO_LONG = LONG + "p"


def answer(text):
    """with_of's answer, once every other call has told of the text the same."""
    t = list(text.encode("latin-1"))
    told = with_of(0, 0, 0, t)
    for name, call in CALLS.items():
        # Literal 0 stands or doesn't, so of these two goals one is so already.
        both = [call(0, 0, 0, what, t) for what in (0, 1)]
        alike = both == [told, told] if told[0] < 0 else both[1 - told[1]][0] == 0
        assert alike, (name, told, both, text)
    return told


class TextTest(unittest.TestCase):
    def right(self, *texts):
        for text in texts:
            with self.subTest(text=text):
                self.assertIsNone(fault(text))
                self.assertEqual(answer(text)[0], 0)

    def wrong(self, kind, *lines):
        """Each of the lines, behind a text that's in order, has a fault of that kind."""
        self.assertEqual(answer(BASE)[0], 0)
        for line in lines:
            with self.subTest(line=line):
                self.assertEqual(fault(BASE + line), (kind, len(BASE)))
                self.assertEqual(answer(BASE + line), [-6])
                self.assertEqual(answer(BASE + line + "rule c: => p\n"), [-6])

    def wrong_whole(self, kind, text):
        self.assertEqual(fault(text)[0], kind)
        self.assertEqual(answer(text), [-6])


class LinesTest(TextTest):
    def test_the_text_of_no_bytes_is_a_case_without_literals(self):
        self.assertIsNone(fault(""))
        self.assertEqual(answer(""), [-1])
        for literal, what in ((0, 1), (0, 3), (1, 0)):
            self.assertEqual(with_of(0, literal, what, []), [-1])

    def test_each_kind_of_line(self):
        self.right("law a: -> p\n", "law a: p -> q\n", "law a: p, ~q -> ~r\n", BASE)
        self.right("rule a: => p\n", "rule a: p => q\n", "rule a: p, ~q => ~r\n")
        self.right("rule a: => p\nrule b: => q\nweigh a > b\n")

    def test_the_words_of_lines_may_be_names(self):
        self.right("law law: -> law\n", "rule rule: law, weigh => rule\n", "rule weigh: => p\nrule x: => q\nweigh weigh > x\n")

    def test_a_text_that_ends_within_a_line(self):
        for text in ("law a: -> p", "l", " ", BASE[:-1], BASE + "rule c: => p", BASE + "x"):
            with self.subTest(text=text):
                self.assertEqual(fault(text), (1, len(text)))
                self.assertEqual(answer(text), [-6])
        for size in range(len(BASE) + 1):
            text = BASE[:size]
            in_order = text == "" or text.endswith("\n")
            self.assertEqual(answer(text) == [-6], not in_order)

    def test_empty_lines(self):
        self.wrong(1, "\n", " \n")
        self.wrong_whole(1, "\n")
        self.wrong_whole(1, "\n" + BASE)

    def test_other_ends_of_lines(self):
        self.wrong(1, "rule c: => r\r\n", "rule c: => r\0\n", "rule c: => r\x0b\n", "rule c: => r\x85\n")

    def test_other_words(self):
        self.wrong(1, "Law c: -> r\n", "laws c: -> r\n", "la c: -> r\n", "fact c: -> r\n", "c: -> r\n", ": -> r\n")
        self.wrong(1, "law\n", "rule\n", "weigh\n", "law c:\n", "law c: ->\n", "law c: r\n", "rule c: =>\n")

    def test_the_other_arrow(self):
        self.wrong(1, "law c: => r\n", "rule c: -> r\n", "law c: > r\n", "rule c: = r\n", "law c: p --> r\n")
        self.wrong(1, "law c: -> -> r\n", "rule c: => => r\n", "law c: p - > r\n")

    def test_no_head_and_two_heads(self):
        self.wrong(1, "rule c: p =>\n", "rule c: p => \n", "rule c: p => q r\n", "rule c: p => q, r\n", "rule c: p => q,\n")

    def test_blanks(self):
        self.wrong(1, " rule c: p => r\n", "rule c: p => r \n", "rule  c: p => r\n", "rule c:  p => r\n")
        self.wrong(1, "rule c: p  => r\n", "rule c: p =>  r\n", "rule c:p => r\n", "rule c: p=> r\n", "rule c: p =>r\n")
        self.wrong(1, "rule c: p,  r => r\n", "rule c: p,r => r\n", "rule c: p r => r\n", "rule c: ~ p => r\n")
        self.wrong(1, "rule\tc: p => r\n", "rule c:=> r\n", "rule c:  => r\n", "rule c: =>r\n", "rulec: => r\n")
        self.wrong(1, " weigh a > b\n", "weigh a > b \n", "weigh  a > b\n", "weigh a>b\n", "weigh a >b\n", "weigh a  > b\n")

    def test_commas(self):
        self.wrong(1, "rule c: p, => r\n", "rule c: , => r\n", "rule c: , p => r\n", "rule c: p,, r => r\n")
        self.wrong(1, "rule c: p , r => r\n", "rule c:, p => r\n", "rule c: p => r,\n", "rule, c: p => r\n")
        self.wrong(1, "rule c: ,p, r => r\n", "weigh a, b\n", "weigh a, > b\n", "weigh a > b,\n")

    def test_colons(self):
        self.wrong(1, "rule c p => r\n", "rule c : p => r\n", "rule c:: p => r\n", "rule :c p => r\n", "rule : p => r\n")
        self.wrong(1, "rule: c p => r\n", "rule c: p: => r\n", "rule c: p => r:\n", "rule c, p => r\n", "rule :c: p => r\n")
        self.wrong(1, "weigh a: > b\n", "weigh: a > b\n", "weigh a > b:\n", "weigh a:b\n")

    def test_weights(self):
        self.wrong(1, "weigh a b\n", "weigh a < b\n", "weigh a > b > a\n", "weigh > b\n", "weigh a >\n", "weigh a >> b\n")
        self.wrong(1, "weigh ~a > b\n", "weigh a > ~b\n", "weigh a -> b\n", "weigh a => b\n", "weigh a > b b\n")

    def test_every_byte_in_a_name(self):
        for byte in range(256):
            sign = bytes([byte]).decode("latin-1")
            for text in (f"rule {sign}: => p\n", f"rule a{sign}a: => p\n", f"rule c: p => ~q{sign}\n"):
                with self.subTest(text=text):
                    self.assertEqual(answer(text) == [-6], fault(text) is not None)

    def test_every_single_change_of_a_sign(self):
        signs = " ,:~>-=\nalp0A"
        for place in range(len(BASE) + 1):
            head, tail = BASE[:place], BASE[place:]
            changed = [head + tail[1:]] + [head + sign + tail for sign in signs] + [head + sign + tail[1:] for sign in signs]
            for text in changed:
                self.assertEqual(answer(text) == [-6], fault(text) is not None, text)


class NamesTest(TextTest):
    FORMS = (
        "law {}: -> p\n",
        "rule {}: => p\n",
        "rule c: {} => p\n",
        "rule c: {}, r => p\n",
        "rule c: ~{} => p\n",
        "rule c: ~{}, r => p\n",
        "rule c: => {}\n",
        "rule c: => ~{}\n",
        "law c: p, {} -> r\n",
        "rule {0}: => p\nrule c: => q\nweigh {0} > c\n",
    )

    def test_names_of_1_to_15_bytes(self):
        for form in self.FORMS:
            self.right(*[form.format(name) for name in ("x", LONG, "a0123456789-9--", "a-", "z9", "a--", "xx")])

    def test_a_name_of_16_bytes_or_none(self):
        for form in self.FORMS:
            for name in (TOO_LONG, "", LONG + LONG):
                self.wrong_whole(1, form.format(name))
        self.wrong(1, f"weigh a > {TOO_LONG}\n", f"weigh {TOO_LONG} > a\n")

    def test_the_first_is_a_letter(self):
        for form in self.FORMS:
            for name in ("0", "-", "9a", "-a", "0" + LONG[1:]):
                self.wrong_whole(1, form.format(name))

    def test_other_signs(self):
        for form in self.FORMS:
            for name in ("A", "aB", "a_b", "a.b", "a/b", "a`", "a{", "a@", "\xe9", "a\xff", "a~", "~~a", "a~b"):
                self.wrong_whole(1, form.format(name))

    def test_a_clause_has_no_opposite_name(self):
        self.wrong(1, "law ~c: -> p\n", "rule ~c: => p\n")


class BodiesTest(TextTest):
    def test_bodies_of_0_to_6_literals(self):
        for size in range(7):
            body = ", ".join(f"p{k}" for k in range(size)) + " " * (size > 0)
            self.right(f"law c: {body}-> q\n", f"rule c: {body}=> q\n")

    def test_a_seventh_literal(self):
        body = ", ".join(f"p{k}" for k in range(7))
        self.wrong(1, f"law c: {body} -> q\n", f"rule c: {body} => q\n", f"rule c: {body}, p7 => q\n")

    def test_a_seventh_literal_that_is_told_twice(self):
        self.wrong(1, "rule c: p, q, r, s, t, u, p => v\n")

    def test_a_literal_twice(self):
        self.wrong(3, "rule c: p, p => q\n", "law c: p, r, p -> q\n", "rule c: r, ~p, ~p => q\n", "law c: ~r, p, q, ~r -> s\n")

    def test_an_atom_and_its_opposite_in_a_body(self):
        self.right("rule c: p, ~p => q\n", "law c: ~p, p -> q\n", "rule c: p => p\n", "law c: p, q -> ~p\n")


class RepeatedTest(TextTest):
    def test_a_name_told_before(self):
        self.wrong(2, "law fact: -> r\n", "rule fact: => r\n", "law a: -> r\n", "rule a: => r\n", "law b: r -> s\n")

    def test_a_name_that_is_an_atom_or_a_beginning_is_no_fault(self):
        self.right(BASE + "law p: -> r\n", BASE + "rule q: => r\n", BASE + "rule aa: => r\n", BASE + "law fac: -> r\n")

    def test_the_same_body_and_head_of_the_same_kind(self):
        self.wrong(3, "law c: -> p\n", "rule c: p => q\n", "rule c: ~q, p => ~q\n")

    def test_another_row_or_another_kind_is_no_fault(self):
        self.right(BASE + "rule c: p, ~q => ~q\n", BASE + "law c: p -> q\n", BASE + "rule c: => p\n")
        self.right(BASE + "rule c: p => ~q\n", BASE + "rule c: ~p => q\n", BASE + "law c: ~q, p -> ~q\n")


def laws(count):
    return "".join(f"law l{k}: ~x{k // 8} -> y{k % 8}\n" for k in range(count))


def rules(count):
    return "".join(f"rule n{k}: => p{k}\n" for k in range(count))


def atoms(count):
    """Few laws with so many atoms, p0 and on."""
    text = ""
    for start in range(0, count, 7):
        names = [f"p{k}" for k in range(start, min(start + 7, count))]
        text += f"law l{start}: {', '.join(names[:-1])}{' ' * (len(names) > 1)}-> {names[-1]}\n"
    return text


class CountsTest(TextTest):
    def test_the_64th_and_the_65th_law(self):
        self.right(laws(63), laws(64), laws(64) + "rule c: => p\n")
        self.wrong_whole(4, laws(64) + "law more: -> y0\n")
        self.wrong_whole(4, "rule c: => p\n" + laws(64) + "law more: y0 -> y1\n")

    def test_the_10th_and_the_11th_rule(self):
        self.right(rules(9), rules(10), rules(10) + laws(40))
        self.wrong_whole(4, rules(11))
        self.wrong_whole(4, rules(10) + laws(10) + "rule more: => ~p0\n")

    def test_the_64th_and_the_65th_atom(self):
        self.right(atoms(64), atoms(62) + "rule c: => p0\n", atoms(62) + "rule c: => x\n")
        self.right(atoms(62) + "rule c: x => ~p0\n", atoms(61) + "rule c: x, ~y => p0\n")
        self.right(atoms(63) + "rule p1: => x\n", atoms(63) + "rule c: => c\n", atoms(63) + "law n: p0 -> ~x\n")
        self.right(atoms(64) + "rule p1: p2 => ~p3\n")
        self.wrong_whole(4, atoms(65))
        self.wrong_whole(4, atoms(64) + "rule c: => p0\n")
        self.wrong_whole(4, atoms(63) + "rule c: => x\n")
        self.wrong_whole(4, atoms(63) + "rule c: x => p0\n")
        self.wrong_whole(4, atoms(63) + "rule c: ~x => p0\n")
        self.wrong_whole(4, atoms(62) + "rule c: ~x => y\n")
        self.wrong_whole(4, atoms(63) + "law n: x -> ~y\n")
        self.wrong_whole(4, atoms(62) + "law n: x, y -> z\n")
        self.wrong_whole(4, "rule c: => d\n" + atoms(63))

    def test_a_law_s_name_is_no_atom(self):
        self.right(atoms(64) + "law other: p0 -> p63\n")

    def test_an_atom_and_its_opposite_are_one_atom(self):
        self.right(atoms(64) + "law x: ~p63 -> p0\nlaw y: ~p0, ~p1 -> ~p2\n")


class WeightsTest(TextTest):
    def test_a_weight_of_no_rule_before(self):
        self.wrong(5, "weigh a > c\n", "weigh c > a\n", "weigh c > c\n", "weigh c > d\n")
        self.wrong(5, "weigh a > fact\n", "weigh fact > a\n", "weigh p > a\n", "weigh a > q\n")
        self.wrong_whole(5, "weigh a > b\n" + BASE)
        self.wrong_whole(5, "rule a: => p\nweigh a > b\nrule b: => q\n")

    def test_a_rule_that_outweighs_itself(self):
        self.wrong(6, "weigh a > a\n", "weigh b > b\n", "weigh b > a\n")
        ring = rules(10) + "".join(f"weigh n{k} > n{k + 1}\n" for k in range(9))
        self.right(ring)
        for k in range(9):
            self.wrong_whole(6, ring + f"weigh n9 > n{k}\n")
        back = rules(4) + "weigh n3 > n2\nweigh n1 > n0\nweigh n2 > n1\n"
        self.right(back)
        self.wrong_whole(6, back + "weigh n0 > n3\n")

    def test_a_weight_told_again_or_that_follows(self):
        self.right(BASE + "weigh a > b\n" * 3)
        self.right(rules(3) + "weigh n0 > n1\nweigh n1 > n2\nweigh n0 > n2\nweigh n0 > n1\n")
        self.right(rules(3) + "weigh n0 > n2\nweigh n0 > n1\nweigh n1 > n2\n")


class LawsAloneTest(TextTest):
    def test_laws_that_clash_by_themselves(self):
        self.wrong(7, "law c: -> ~p\n", "law c: p -> ~p\n")
        self.wrong_whole(7, BASE + "law c: r -> ~p\nlaw d: p, s -> r\nlaw e: -> s\n")
        self.wrong_whole(7, "law a: p, q, r, s, t, u -> ~p\n" + "".join(f"law x{k}: -> {k}\n" for k in "pqrstu"))

    def test_laws_that_clash_with_rules_alone_are_no_fault(self):
        self.right(BASE + "law c: q -> ~p\n", BASE + "law c: -> ~q\n", BASE + "law c: -> ~a\n", BASE + "law c: a -> ~a\n")
        self.right("law a: p -> q\nlaw b: p -> ~q\n", "law a: p -> ~p\nlaw b: ~p -> p\n", "law a: p -> ~p\n")


def sized(size):
    """A text in order with so many bytes: weights told again fill it up."""
    text = "rule a: => p\nrule b: => q\n"
    line = "weigh a > b\n"
    while (size - len(text)) % len(line):
        text = text.replace("rule a: => p", "rule a: => px")
    return text + line * ((size - len(text)) // len(line))


class SizeTest(TextTest):
    def test_8192_bytes(self):
        for size in (8190, 8191, 8192):
            text = sized(size)
            self.assertEqual(len(text), size)
            self.right(text)
            self.assertEqual(answer("x" + text[1:]), [-6])
            self.assertEqual(answer(text[:-1] + " "), [-6])

    def test_more_than_8192_bytes(self):
        for size in (8193, 8194, 8300):
            text = sized(size)
            self.assertEqual(len(text), size)
            self.assertIsNone(fault(text))
            self.assertEqual(answer(text), [-1])
            self.assertEqual(answer("x" + text[1:]), [-1])
            self.assertEqual(answer(text[:-1] + " "), [-1])


if __name__ == "__main__":
    unittest.main()
