"""[1.6] and the heading sandreckoner/notation.py."""

import random
import unittest

import model
from sandreckoner.errors import BadForm
from sandreckoner.notation import number_text, read_number

GREAT = model.raised(model.number(100), 2)
TEXTS = [
    (0, "0"),
    (1, "+[0]"),
    (-1, "-[0]"),
    (2, "+[+[0]]"),
    (3, "+[+[+[0]]]-[0]"),
    (-3, "-[+[+[0]]]+[0]"),
    (5, "+[+[+[0]]]+[0]"),
    (-6, "-[+[+[+[0]]]-[0]]+[+[0]]"),
    (16, "+[+[+[+[0]]]]"),
]


def spoilt(text):
    """The texts that are the text but for one sign: changed, left out, doubled, exchanged, or put in."""
    for at, sign in enumerate(text):
        for other in "+-[]0 1({":
            if other != sign:
                yield text[:at] + other + text[at + 1:]
            yield text[:at] + other + text[at:]
        yield text[:at] + text[at + 1:]
        yield text[:at] + sign + text[at:]
        if at > 0 and text[at - 1] != sign:
            yield text[:at - 1] + sign + text[at - 1] + text[at + 1:]
    for other in "+-[]0 ":
        yield text + other


class NotationTest(unittest.TestCase):
    def refuse(self, text):
        with self.assertRaises(BadForm):
            read_number(text)

    def test_texts(self):
        for value, text in TEXTS:
            self.assertEqual(number_text(model.number(value)), text)
            self.assertEqual(read_number(text), model.number(value))

    def test_integers_there_and_back(self):
        for value in range(-500, 501):
            x = model.number(value)
            self.assertEqual(model.parsed(number_text(x)), x)
            self.assertEqual(read_number(number_text(x)), x)

    def test_great_numbers_there_and_back(self):
        rng = random.Random(41)
        rows = [model.random_number(rng, 8) for _ in range(200)]
        for x in rows + [GREAT, model.raised((), 40), model.of_size(300), model.opposite(model.of_size(300))]:
            text = number_text(x)
            self.assertEqual(model.parsed(text), x)
            self.assertEqual(read_number(text), x)

    def test_the_longest_texts(self):
        # Of the numbers of the greatest size those with many terms have the longest texts.
        rng = random.Random(42)
        rows = [model.number(rng.getrandbits(80)) for _ in range(300)]
        rows = [x for x in rows if 290 <= model.size(x) <= 300]
        self.assertGreater(len(rows), 3)
        for x in rows:
            self.assertGreater(len(number_text(x)), 900)
            self.assertEqual(read_number(number_text(x)), x)

    def test_one_sign_spoilt(self):
        samples = [text for _, text in TEXTS]
        samples += [number_text(model.number(value)) for value in (43, -100, 2 ** 33 - 2 ** 17 + 1)]
        samples.append(number_text(model.plus(GREAT, model.number(-3))))
        for text in samples:
            for other in spoilt(text):
                x = model.parsed(other)
                if x is not None and model.is_allowed(x):
                    self.assertEqual(read_number(other), x, other)
                else:
                    self.refuse(other)

    def test_two_signs_spoilt(self):
        for text in ("0", "+[0]", "+[+[0]]", "+[+[+[0]]]-[0]"):
            for one in spoilt(text):
                for other in spoilt(one):
                    x = model.parsed(other)
                    if x is not None and model.is_allowed(x):
                        self.assertEqual(read_number(other), x, other)
                    else:
                        self.refuse(other)

    def test_no_texts_of_numbers(self):
        for text in [
            "", " ", "00", "+", "-", "[", "]", "[]", "[0]", "+0", "-0", "+[", "+[]", "+[0", "+0]", "0]", "+[00]",
            "0+[0]", "+[0]0", "+[0] ", " +[0]", "+ [0]", "+[0+[0]]", "+[+[0]0]", "1", "+[1]", "+(0)", "+[0]]",
            "++[0]", "+[0]+", "+[0]-", "+[[0]]", "+[+0]", "+[]0", "+0[]", "0+[]", "+[]", "+[+[]]", "hello",
        ]:
            self.refuse(text)

    def test_texts_of_other_sums(self):
        for text in [
            "+[0]+[0]", "+[0]-[0]", "-[0]-[0]", "+[0]+[+[0]]", "+[+[0]]+[0]", "+[+[0]]-[0]", "+[-[0]]",
            "+[0]+[+[+[0]]]", "+[+[+[0]]]+[+[0]]", "+[-[+[+[0]]]+[0]]", "+[+[0]+[0]]", "+[+[+[0]]]+[0]-[0]",
        ]:
            self.refuse(text)
            self.refuse(f"+[+[+[+[+[0]]]]]-[{text}]")
            self.refuse(f"+[{text}]")

    def test_numbers_just_allowed_and_just_not(self):
        for x in (model.of_size(300), model.raised((), 40), model.power(model.of_size(299))):
            self.assertEqual(read_number(number_text(x)), x)
        self.refuse(number_text(model.of_size(299)) + "+[0]+[0]")
        self.refuse(number_text(model.of_size(300)) + "+[0]")
        self.assertEqual(read_number(number_text(model.of_size(299)) + "+[0]"), model.of_size(299) + ((1, ()),))
        self.refuse("+[" + number_text(model.of_size(300)) + "]")
        self.refuse("+[" * 41 + "0" + "]" * 41)
        self.assertEqual(read_number("-[" + "+[" * 39 + "0" + "]" * 40), model.opposite(model.raised((), 40)))

    def test_long_texts(self):
        for text in [
            "0" * 10 ** 6, "+" * 10 ** 6, "[" * 10 ** 6, "]" * 10 ** 6, "+[0]" * 10 ** 5, "-[0]+[+[0]]" * 10 ** 5,
            "+[" * 10 ** 6, "+[0" * 10 ** 5, "+[0]" * 299, "+[0]" * 300, "+[0]" * 301, " " * 10 ** 6,
        ]:
            self.refuse(text)

    def test_deep_texts(self):
        for many in (41, 100, 199, 200, 280, 299, 300, 350, 400, 500, 600, 1000, 10 ** 5, 10 ** 6):
            self.refuse("+[" * many + "0" + "]" * many)
            self.refuse("-[" * many + "0" + "]" * many)
            self.refuse("+[" * many)
            self.refuse("+[" * many + "]" * many)
            self.refuse("+[" * many + "0" + "]" * (many - 1))
            self.refuse("+[" * many + "0" + "]" * (many + 1))


if __name__ == "__main__":
    unittest.main()
