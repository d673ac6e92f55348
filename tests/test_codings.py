"""headerfold.codings: points [8] and [9], Fact 1 of [10], and the interface."""

import inspect
import unittest

from headerfold import codings
from headerfold.codings import octets_for, octets_of, payload_of, text_from
from headerfold.errors import BadCharset, BadCode, BadCoding, BadOctet, BadPayload, BadText
from headerfold.marks import MARKS, is_code
from headerfold.texts import Text
from tests.support import check_error, wrong_objects

STRAIGHT = "ABCDEFGHIJKLMNOPQRSTUVWXYZabcdefghijklmnopqrstuvwxyz0123456789"
ALPHABET = STRAIGHT + "+-"
ALL_OCTETS = tuple(range(256))
ALL_CODES = tuple(code for code in range(65536) if is_code(code))
NO_STRINGS = wrong_objects() + [(), ("h",), ("latin",), 0, 1, Text("h")]
NO_TUPLES = wrong_objects() + ["", "ab", 1, Text("a")]
STRANGE = ["\n", " ", "\t", "\x00", "\x7f", "\xe9", "\u20ac", "\ud800", "\U0001f600", chr(37), "\u0661", "\u0391"]


def codes_of(charset, octets):
    """What is read, as codes, and whether all was right."""
    text, is_right = text_from(charset, octets)
    return text.codes, is_right


class Interface(unittest.TestCase):
    def test_names_and_parameters(self):
        expected = {
            "payload_of": ["coding", "octets"], "octets_of": ["coding", "payload"],
            "octets_for": ["charset", "text"], "text_from": ["charset", "octets"],
        }
        for name, parameters in expected.items():
            function = getattr(codings, name)
            self.assertEqual(function.__module__, "headerfold.codings")
            self.assertEqual(list(inspect.signature(function).parameters), parameters)

    def test_by_name(self):
        self.assertEqual(payload_of(octets=(65,), coding="h"), "A")
        self.assertEqual(octets_of(payload="A", coding="h"), (65,))
        self.assertEqual(octets_for(text=Text("A"), charset="wide"), (0, 65))
        self.assertEqual(text_from(octets=(0, 65), charset="wide"), (Text("A"), True))

    def test_examples(self):
        self.assertEqual((payload_of("h", (65, 32, 233)), payload_of("s", (0, 1)), octets_of("s", "AAE")),
                         ("A_=E9", "AAE", (0, 1)))
        self.assertEqual((octets_for("steps", Text.of((65, 233, 65535))), str(text_from("wide", (0, 65, 7))[0])),
                         ((65, 233, 1, 255, 255, 3), "A?"))


class WrittenPayloads(unittest.TestCase):
    def test_h_of_every_octet(self):
        for octet in ALL_OCTETS:
            if chr(octet) in STRAIGHT:
                expected = chr(octet)
            elif octet == 32:
                expected = "_"
            else:
                expected = "=" + hex(256 + octet)[3:].upper()
            self.assertEqual(payload_of("h", (octet,)), expected)

    def test_h_of_more(self):
        for octets, payload in (((), ""), ((0, 10, 255), "=00=0A=FF"), ((97, 32, 32, 98), "a__b"), ((95,), "=5F"),
                                ((61, 52, 49), "=3D41"), ((43, 45), "=2B=2D"), ((48, 57, 65, 90, 122), "09AZz")):
            self.assertEqual(payload_of("h", octets), payload)

    def test_s_of_one_octet(self):
        for octet in ALL_OCTETS:
            self.assertEqual(payload_of("s", (octet,)), ALPHABET[octet >> 2] + ALPHABET[(octet & 3) << 4])

    def test_s_of_more(self):
        for octets, payload in (
                ((), ""), ((0,), "AA"), ((1,), "AQ"), ((255,), "-w"), ((0, 0), "AAA"), ((0, 1), "AAE"),
                ((255, 255), "--8"), ((0, 0, 0), "AAAA"), ((255, 255, 255), "----"), ((0, 0, 1), "AAAB"),
                ((251, 239, 190), "++++"), ((77, 97, 110), "TWFu"), ((77, 97), "TWE"), ((77,), "TQ"),
                ((0, 16, 131), "ABCD"), ((77, 97, 110, 77), "TWFuTQ"), ((1, 2, 3, 4, 5), "AQIDBAU"),
                ((105, 183, 29, 121, 248, 33), "abcdefgh")):
            self.assertEqual(payload_of("s", octets), payload)

    def test_s_digits_are_the_bits_in_their_order(self):
        for many in range(13):
            octets = tuple(37 * (k + 1) * (k + 3) % 256 for k in range(many))
            bits = "".join(bin(256 + octet)[3:] for octet in octets)
            bits += "0" * (-len(bits) % 6)
            expected = "".join(ALPHABET[int(bits[k:k + 6], 2)] for k in range(0, len(bits), 6))
            self.assertEqual(payload_of("s", octets), expected)

    def test_wrong_coding(self):
        for coding in NO_STRINGS + ["", "H", "S", "hs", "h ", " s", "q", "b", "latin", "\n"]:
            check_error(self, BadCoding, "given", coding, payload_of, coding, (65,))
            check_error(self, BadCoding, "given", coding, payload_of, coding=coding, octets=())

    def test_no_tuple_of_octets(self):
        for octets in NO_TUPLES:
            for coding in ("h", "s"):
                check_error(self, BadOctet, "place", None, payload_of, coding, octets)
                check_error(self, BadOctet, "place", None, payload_of, coding=coding, octets=octets)

    def test_first_item_that_is_no_octet(self):
        for wrong in [-1, 256, 257, 10 ** 399, -10 ** 399] + NO_TUPLES[:-2] + [(), (65,)]:
            for coding in ("h", "s"):
                check_error(self, BadOctet, "place", 0, payload_of, coding, (wrong,))
                check_error(self, BadOctet, "place", 2, payload_of, coding, (0, 255, wrong))
                check_error(self, BadOctet, "place", 1, payload_of, coding, (0, wrong, 0, wrong))

    def test_coding_is_looked_at_first(self):
        coding, octets = [], []
        check_error(self, BadCoding, "given", coding, payload_of, coding, octets)
        check_error(self, BadCoding, "given", coding, payload_of, octets=(256,), coding=coding)


class ReadH(unittest.TestCase):
    def test_right_payloads(self):
        for payload, octets in (
                ("", ()), ("A", (65,)), ("_", (32,)), ("=20", (32,)), ("=41", (65,)), ("=00=FF", (0, 255)),
                ("a_=E9", (97, 32, 233)), ("=3D41", (61, 52, 49)), ("=5F", (95,)), ("=E9E9", (233, 69, 57)),
                ("zZ09", (122, 90, 48, 57)), ("=9A=A9", (154, 169))):
            answer = octets_of("h", payload)
            self.assertIs(answer.__class__, tuple)
            self.assertEqual(answer, octets, payload)

    def test_every_octet_with_digits(self):
        for octet in ALL_OCTETS:
            self.assertEqual(octets_of("h", "=" + hex(256 + octet)[3:].upper()), (octet,))

    def test_every_mark(self):
        for mark in MARKS + "".join(STRANGE):
            if mark in STRAIGHT:
                self.assertEqual(octets_of("h", mark), (ord(mark),))
            elif mark == "_":
                self.assertEqual(octets_of("h", mark), (32,))
            else:
                check_error(self, BadPayload, "place", 0, octets_of, "h", mark)
                check_error(self, BadPayload, "place", 3, octets_of, "h", "a_b" + mark + "c")
                check_error(self, BadPayload, "place", 5, octets_of, "h", "=41_B" + mark)

    def test_equals_sign_without_two_digits(self):
        for payload, place in (("=", 0), ("=4", 0), ("a=", 1), ("a=4", 1), ("=G0", 0), ("=0G", 0), ("=e9", 0),
                               ("=Ea", 0), ("=aE", 0), ("a=4=41", 1), ("==41", 0), ("=4_", 0), ("=_4", 0),
                               ("=41=", 3), ("=41=4", 3), ("=41=4G", 3), ("b=E9=E", 4), ("= 4", 0), ("=4 ", 0),
                               ("=+1", 0), ("=-1", 0), ("=4\n", 0), ("=\u0661\u0661", 0), ("=4?!", 0)):
            check_error(self, BadPayload, "place", place, octets_of, "h", payload)

    def test_the_first_wrong_place_counts(self):
        for payload, place in (("a.b.", 1), ("a.=", 1), ("=.", 0), ("ab=4.", 2), ("+=", 0)):
            check_error(self, BadPayload, "place", place, octets_of, "h", payload)


class ReadS(unittest.TestCase):
    def test_right_payloads(self):
        for payload, octets in (
                ("", ()), ("AA", (0,)), ("AQ", (1,)), ("-w", (255,)), ("AAA", (0, 0)), ("AAE", (0, 1)),
                ("--8", (255, 255)), ("----", (255, 255, 255)), ("++++", (251, 239, 190)), ("TWFu", (77, 97, 110)),
                ("TWFuTQ", (77, 97, 110, 77)), ("ABCD", (0, 16, 131)), ("abcdefgh", (105, 183, 29, 121, 248, 33))):
            answer = octets_of("s", payload)
            self.assertIs(answer.__class__, tuple)
            self.assertEqual(answer, octets, payload)

    def test_characters_that_cannot_stand_there(self):
        for mark in MARKS + "".join(STRANGE):
            if mark not in ALPHABET:
                check_error(self, BadPayload, "place", 0, octets_of, "s", mark)
                check_error(self, BadPayload, "place", 0, octets_of, "s", mark + "AAA")
                check_error(self, BadPayload, "place", 3, octets_of, "s", "AAA" + mark)
                check_error(self, BadPayload, "place", 4, octets_of, "s", "AAAA" + mark)
                check_error(self, BadPayload, "place", 1, octets_of, "s", "A" + mark + "A" + mark + "A")

    def test_length_4_n_plus_1(self):
        for many in (1, 5, 9, 101):
            check_error(self, BadPayload, "place", many, octets_of, "s", "A" * many)
            check_error(self, BadPayload, "place", many, octets_of, "s", "-" * many)

    def test_other_lengths(self):
        for many in (0, 2, 3, 4, 6, 7, 8, 10, 11, 12):
            self.assertEqual(octets_of("s", "A" * many), (0,) * (many * 3 // 4))

    def test_bits_left_over_of_two_digits(self):
        for value, digit in enumerate(ALPHABET):
            for front in ("", "TWFu"):
                payload = front + "A" + digit
                if value & 15:
                    check_error(self, BadPayload, "place", len(payload) - 1, octets_of, "s", payload)
                else:
                    self.assertEqual(octets_of("s", payload)[-1], value >> 4)

    def test_bits_left_over_of_three_digits(self):
        for value, digit in enumerate(ALPHABET):
            for front in ("", "TWFu"):
                payload = front + "AA" + digit
                if value & 3:
                    check_error(self, BadPayload, "place", len(payload) - 1, octets_of, "s", payload)
                else:
                    self.assertEqual(octets_of("s", payload)[-2:], (0, value >> 2))

    def test_characters_are_looked_at_before_length_and_bits(self):
        for payload, place in (("AAAA=", 4), ("=AAAA", 0), ("A=", 1), ("B_B", 1), ("AAB_AB", 3), ("A_AAAAAAA", 1)):
            check_error(self, BadPayload, "place", place, octets_of, "s", payload)

    def test_every_last_digit_counts_only_at_the_end(self):
        self.assertEqual(octets_of("s", "ABABAA"), (0, 16, 1, 0))
        check_error(self, BadPayload, "place", 5, octets_of, "s", "ABABAB")


class WrongToRead(unittest.TestCase):
    def test_wrong_coding(self):
        for coding in NO_STRINGS + ["", "H", "S", "hs", "sh", " h", "s\n", "q", "wide"]:
            check_error(self, BadCoding, "given", coding, octets_of, coding, "AA")
            check_error(self, BadCoding, "given", coding, octets_of, coding=coding, payload="AA")

    def test_payload_that_is_no_string(self):
        for payload in NO_STRINGS:
            for coding in ("h", "s"):
                check_error(self, BadPayload, "place", None, octets_of, coding, payload)
                check_error(self, BadPayload, "place", None, octets_of, payload=payload, coding=coding)

    def test_coding_is_looked_at_first(self):
        coding = {}
        check_error(self, BadCoding, "given", coding, octets_of, coding, None)
        check_error(self, BadCoding, "given", coding, octets_of, payload="=", coding=coding)


class WrittenOctets(unittest.TestCase):
    def test_latin(self):
        codes = tuple(code for code in ALL_CODES if code < 256)
        self.assertEqual(octets_for("latin", Text.of(codes)), codes)
        self.assertEqual(octets_for("latin", Text()), ())

    def test_latin_has_codes_up_to_255(self):
        for code in (256, 8364, 65535):
            check_error(self, BadCode, "place", 0, octets_for, "latin", Text.of((code,)))
            check_error(self, BadCode, "place", 2, octets_for, "latin", Text.of((255, 97, code, 97, code)))
            check_error(self, BadCode, "place", 1, octets_for, charset="latin", text=Text.of((160, code)))

    def test_wide(self):
        for codes, octets in (((), ()), ((32,), (0, 32)), ((255,), (0, 255)), ((256,), (1, 0)), ((65535,), (255, 255)),
                              ((65, 8364, 233), (0, 65, 32, 172, 0, 233))):
            self.assertEqual(octets_for("wide", Text.of(codes)), octets)

    def test_steps(self):
        for codes, octets in (
                ((), ()), ((32,), (32,)), ((126,), (126,)), ((160,), (160, 1)), ((233,), (233, 1)),
                ((255,), (255, 1)), ((256,), (128, 2)), ((16383,), (255, 127)), ((16384,), (128, 128, 1)),
                ((65535,), (255, 255, 3)), ((8364,), (172, 65)), ((65, 160, 66, 16384), (65, 160, 1, 66, 128, 128, 1))):
            self.assertEqual(octets_for("steps", Text.of(codes)), octets)

    def test_answers_are_tuples(self):
        for charset in ("latin", "wide", "steps"):
            self.assertIs(octets_for(charset, Text("ab")).__class__, tuple)

    def test_wrong_charset(self):
        for charset in NO_STRINGS + ["", "Latin", "WIDE", "step", "latin ", " wide", "h", "s", "utf-8", "steps\n"]:
            check_error(self, BadCharset, "given", charset, octets_for, charset, Text("a"))
            check_error(self, BadCharset, "given", charset, octets_for, charset=charset, text=Text("a"))
            check_error(self, BadCharset, "given", charset, text_from, charset, (97,))
            check_error(self, BadCharset, "given", charset, text_from, charset=charset, octets=(97,))

    def test_wrong_text(self):
        for text in wrong_objects() + ["", "a", 97, (), (97,), (Text("a"),)]:
            for charset in ("latin", "wide", "steps"):
                check_error(self, BadText, "given", text, octets_for, charset, text)
                check_error(self, BadText, "given", text, octets_for, text=text, charset=charset)

    def test_charset_is_looked_at_first(self):
        charset = []
        check_error(self, BadCharset, "given", charset, octets_for, charset, None)
        check_error(self, BadCharset, "given", charset, octets_for, text=Text.of((65535,)), charset=charset)
        check_error(self, BadCharset, "given", charset, text_from, charset, None)
        check_error(self, BadCharset, "given", charset, text_from, octets=(256,), charset=charset)


class ReadOctets(unittest.TestCase):
    def test_kinds_of_the_answer(self):
        for charset in ("latin", "wide", "steps"):
            for octets in ((), (0,), (97, 98)):
                answer = text_from(charset, octets)
                self.assertIs(answer.__class__, tuple)
                self.assertEqual(len(answer), 2)
                self.assertIs(answer[0].__class__, Text)
                self.assertIs(answer[1].__class__, bool)

    def test_no_octets(self):
        for charset in ("latin", "wide", "steps"):
            self.assertEqual(codes_of(charset, ()), ((), True))

    def test_latin_of_every_octet(self):
        for octet in ALL_OCTETS:
            expected = ((octet,), True) if is_code(octet) else ((63,), False)
            self.assertEqual(codes_of("latin", (octet,)), expected)

    def test_latin_one_by_one(self):
        self.assertEqual(codes_of("latin", (97, 0, 98, 127, 37, 233, 159)), ((97, 63, 98, 63, 63, 233, 63), False))
        self.assertEqual(codes_of("latin", (63, 63)), ((63, 63), True))

    def test_wide_pairs(self):
        for octets, expected in (
                ((0, 65), ((65,), True)), ((32, 172, 0, 65), ((8364, 65), True)), ((255, 255), ((65535,), True)),
                ((0, 160), ((160,), True)), ((0, 63), ((63,), True)), ((0, 0), ((63,), False)), ((0, 31), ((63,), False)),
                ((0, 32), ((32,), True)), ((0, 36), ((36,), True)), ((0, 37), ((63,), False)), ((0, 38), ((38,), True)),
                ((0, 126), ((126,), True)), ((0, 127), ((63,), False)), ((0, 159), ((63,), False)),
                ((1, 0), ((256,), True)), ((1, 37), ((293,), True)), ((0, 37, 0, 65), ((63, 65), False))):
            self.assertEqual(codes_of("wide", octets), expected)

    def test_wide_single_octet_at_the_end(self):
        for octet in (0, 63, 65, 97, 255):
            self.assertEqual(codes_of("wide", (octet,)), ((63,), False))
            self.assertEqual(codes_of("wide", (0, 65, octet)), ((65, 63), False))
            self.assertEqual(codes_of("wide", (0, 65, 1, 0, octet)), ((65, 256, 63), False))

    def test_steps_rows(self):
        for octets, expected in (
                ((65,), ((65,), True)), ((63,), ((63,), True)), ((233, 1), ((233,), True)),
                ((255, 255, 3), ((65535,), True)), ((65, 233, 1, 66), ((65, 233, 66), True)),
                ((128, 128, 1), ((16384,), True)), ((255, 127), ((16383,), True)), ((160, 1), ((160,), True))):
            self.assertEqual(codes_of("steps", octets), expected)

    def test_steps_numbers_that_are_no_codes(self):
        for octets in ((0,), (1,), (31,), (37,), (127,), (255, 255, 4), (128, 128, 4), (255, 255, 127), (128, 1),
                       (159, 1), (129, 128, 127)):
            self.assertEqual(codes_of("steps", octets), ((63,), False), octets)

    def test_steps_rows_that_are_cut_off(self):
        for octets in ((128,), (193,), (255,), (193, 128), (255, 255), (128, 200)):
            self.assertEqual(codes_of("steps", octets), ((63,), False), octets)
            self.assertEqual(codes_of("steps", (65,) + octets), ((65, 63), False), octets)
            self.assertEqual(codes_of("steps", (233, 1) + octets), ((233, 63), False), octets)

    def test_steps_rows_that_end_with_0(self):
        for octets in ((193, 0), (193, 128, 0), (255, 0), (255, 255, 0), (233, 129, 0), (160, 129, 0), (128, 0)):
            self.assertEqual(codes_of("steps", octets), ((63,), False), octets)
            self.assertEqual(codes_of("steps", octets + (65,)), ((63, 65), False), octets)

    def test_steps_rows_end_behind_the_third_octet(self):
        self.assertEqual(codes_of("steps", (255, 255, 255)), ((63,), False))
        self.assertEqual(codes_of("steps", (193, 128, 128, 65)), ((63, 65), False))
        self.assertEqual(codes_of("steps", (128,) * 6), ((63, 63), False))
        self.assertEqual(codes_of("steps", (128,) * 7), ((63, 63, 63), False))
        self.assertEqual(codes_of("steps", (255, 255, 131, 65)), ((63, 65), False))
        self.assertEqual(codes_of("steps", (255, 255, 3, 3)), ((65535, 63), False))

    def test_no_tuple_of_octets(self):
        for octets in NO_TUPLES:
            for charset in ("latin", "wide", "steps"):
                check_error(self, BadOctet, "place", None, text_from, charset, octets)
                check_error(self, BadOctet, "place", None, text_from, octets=octets, charset=charset)

    def test_first_item_that_is_no_octet(self):
        for wrong in [-1, 256, 8364, 10 ** 399] + NO_TUPLES[:-2] + [(), (65,)]:
            for charset in ("latin", "wide", "steps"):
                check_error(self, BadOctet, "place", 0, text_from, charset, (wrong, 65))
                check_error(self, BadOctet, "place", 2, text_from, charset, (0, 255, wrong, wrong))


class Fact1(unittest.TestCase):
    def test_octets_of_every_code(self):
        for charset, codes in (("latin", ALL_CODES[:190]), ("wide", ALL_CODES), ("steps", ALL_CODES)):
            for start in range(0, len(codes), 1000):
                text = Text.of(codes[start:start + 1000])
                self.assertEqual(text_from(charset, octets_for(charset, text)), (text, True))
        self.assertEqual(ALL_CODES[189], 255)

    def test_octets_of_each_code_alone(self):
        for code in ALL_CODES:
            text = Text.of((code,))
            for charset in ("wide", "steps"):
                if text_from(charset, octets_for(charset, text)) != (text, True):
                    self.fail(charset + str(code))

    def test_payloads(self):
        for many in range(8):
            for first in ALL_OCTETS:
                octets = tuple((first + 83 * k) % 256 for k in range(many))
                for coding in ("h", "s"):
                    self.assertEqual(octets_of(coding, payload_of(coding, octets)), octets)

    def test_both(self):
        for charset, codes in (("latin", ALL_CODES[:190]), ("wide", ALL_CODES[::7]), ("steps", ALL_CODES[::7])):
            for many in (1, 2, 3, 4, 5, 7, 200):
                text = Text.of(codes[-many:])
                for coding in ("h", "s"):
                    payload = payload_of(coding, octets_for(charset, text))
                    self.assertEqual(text_from(charset, octets_of(coding, payload)), (text, True))

    def test_a_row_of_words_stands_for_the_whole(self):
        text = Text.of((97, 233, 32, 8364, 65535, 160))
        for charset in ("wide", "steps"):
            octets = ()
            for place in range(len(text)):
                octets += octets_for(charset, text.part(place, place + 1))
            self.assertEqual(octets, octets_for(charset, text))


if __name__ == "__main__":
    unittest.main()
