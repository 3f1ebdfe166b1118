"""Points 60 to 69: the check and a second reading of these points agree on questions with mistakes."""

import random
import unittest

from judge import Judge, Refused, Spoiler
from kithbase import errors
from kithbase.kinds import check
from oracle import Maker, some_sources

PARAMETERS = [3, "x", True, None]
NAMES = ["id", "n", "w", "b", "m", "p", "q", "z"]
TABLES = ["s0_t", "s0_u", "s1_v", "missing"]


def told_by_check(tree, sources):
    try:
        return check(tree, sources, PARAMETERS)
    except errors.QuestionError as error:
        kept = getattr(error, "name", getattr(error, "number", None))
        return (type(error).__name__, kept)


def told_by_judge(tree, sources):
    try:
        return Judge(sources, PARAMETERS).question(tree)
    except Refused as refused:
        return refused.told


class Judging(unittest.TestCase):
    def test_questions_with_mistakes(self):
        chance = random.Random(65)
        spoiler = Spoiler(chance, NAMES, TABLES)
        seen = {}
        for turn in range(6000):
            sources = some_sources(chance)
            tree = spoiler.spoiled(Maker(chance, sources, PARAMETERS).question(), chance.choice((0, 0.02, 0.05, 0.1)))
            told = told_by_check(tree, sources)
            self.assertEqual(told, told_by_judge(tree, sources), tree)
            word = told[0] if isinstance(told, tuple) else "passed"
            seen[word] = seen.get(word, 0) + 1
        for word in ("passed", "UnknownTable", "UnknownColumn", "AmbiguousColumn", "DuplicateSource", "NotGrouped",
                     "UnknownParameter", "UnknownPosition", "KindMismatch", "ColumnCount", "RowCount",
                     "AggregateNotAllowed", "GroupingNotAllowed", "NothingToShow"):
            self.assertGreater(seen.get(word, 0), 5, word)


if __name__ == "__main__":
    unittest.main()
