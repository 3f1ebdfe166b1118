"""Point 59: the parser and the grammar of points 54 to 58 refuse the same texts at the same places."""

import random
import unittest

from grammar import RULES, refused_position
from kithbase.errors import RefusedText
from kithbase.parser import parse
from kithbase.tokens import KEYWORDS, tokenize

WORDS = {"name": "abc", "integer": "120", "text": ["'x'", "''"], "parameter": ["$1", "$2"]}
SIGNS = ["(", ")", ",", ".", "+", "-", "*", "/", "=", "<>", "<", "<=", ">", ">=", "||"]
# Words that often continue a question are tried more often.
LIKELY = ["select", "a", "b", "1", "(", ")", ",", "from", "in", "not", "is", "null", "union", "=", "-", "case", "join",
          "on"]


def shortest():
    """Returns a dict with the number of tokens of the shortest text of each symbol of the grammar."""
    least = {}
    changed = True
    while changed:
        changed = False
        for head, rules in RULES.items():
            for words in rules:
                if all(word in least or word not in RULES for word in words):
                    many = sum([least.get(word, 1) for word in words])
                    if many < least.get(head, 10 ** 9):
                        least[head] = many
                        changed = True
    return least


LEAST = shortest()


def grow(chance, head, room):
    """Returns the words of a random text of the symbol, of about as many tokens as there is room."""
    if head not in RULES:
        return [chance.choice(WORDS[head]) if head in WORDS else head.lower()]
    fitting = [words for words in RULES[head] if sum([LEAST.get(word, 1) for word in words]) <= max(room, LEAST[head])]
    words = chance.choice(fitting)
    needed = sum([LEAST.get(word, 1) for word in words])
    made = []
    for word in words:
        needed -= LEAST.get(word, 1)
        part = grow(chance, word, max(room - needed, LEAST.get(word, 1)))
        room -= len(part)
        made.extend(part)
    return made


def position_of(text):
    try:
        parse(text)
    except RefusedText as error:
        return error.position
    return None


def deepest(words):
    """Returns at least the depth that the words have; the grammar alone knows of no limit."""
    return sum([word in ("(", "not", "-", "case") for word in words])


class Refusals(unittest.TestCase):
    def check(self, words):
        text = " ".join(words)
        self.assertEqual(position_of(text), refused_position(text), text)

    def test_each_word_behind_each_beginning(self):
        chance = random.Random(54)
        words = list(KEYWORDS) + SIGNS + ["a", "1", "'x'", "$1"]
        for turn in range(40):
            made = grow(chance, "question", 25)
            if deepest(made) < 12:
                for word in chance.sample(words, 25):
                    self.check(made[:chance.randrange(len(made) + 1)] + [word])

    def test_random_words(self):
        chance = random.Random(55)
        words = list(KEYWORDS) + SIGNS + LIKELY * 5
        for turn in range(1500):
            self.check(["select"] + chance.choices(words, k=chance.randrange(8)))

    def test_questions(self):
        chance = random.Random(56)
        accepted = 0
        for turn in range(400):
            made = grow(chance, "question", chance.randrange(4, 40))
            if deepest(made) <= 12 and len(made) <= 120:
                self.check(made)
                accepted += position_of(" ".join(made)) is None
        self.assertGreater(accepted, 250)

    def test_questions_with_a_mistake(self):
        chance = random.Random(57)
        words = list(KEYWORDS) + SIGNS + ["a", "1", "'x'", "$1"]
        for turn in range(600):
            made = grow(chance, "question", chance.randrange(4, 25))
            at = chance.randrange(len(made))
            way = chance.randrange(4)
            if way == 0:
                made[at:at + 1] = []
            elif way == 1:
                made[at:at] = [chance.choice(words)]
            elif way == 2:
                made[at] = chance.choice(words)
            else:
                made = made[:at]
            if deepest(made) <= 12:
                self.check(made)

    def test_the_grammar_itself(self):
        for text, position in (("select a", None), ("select", 6), ("", 0), ("select ((select 1) union select 2)", 19),
                               ("select a not b", 13), ("(select 1) union (select 2) limit 1", None)):
            self.assertEqual(refused_position(text), position)
        self.assertEqual(len(tokenize("select a || b")), 4)


if __name__ == "__main__":
    unittest.main()
