"""The interface: how calls and answers are written, and what is left alone."""
import contextlib
import io
import random
import unittest

from heads.hydra import answers
from plain_hydra import GREATEST, cut, line, order, plain_answers, small_hydras, split, start, tell


def no_change(*handed):
    raise AssertionError("what was handed in is changed")


class Guarded(list):
    """A list that can't be changed, not for a while either."""
    append = extend = insert = pop = remove = clear = reverse = sort = no_change
    __setitem__ = __delitem__ = __iadd__ = __imul__ = no_change


WRITERS = {"start": start, "cut": cut, "tell": tell, "order": order}


def written(calls):
    return line(*[WRITERS[call[0]](*call[1:]) for call in calls])


def random_calls(chance, hydras):
    """A line of calls; the first is a start that answers 0."""
    calls = [("start", chance.choice(hydras))]
    wrong = [[], [1], [0, 0], [0, 2], [0, 1, 3]]
    for k in range(chance.randrange(50)):
        name = chance.choice(["start", "cut", "cut", "cut", "cut", "cut", "tell", "order", "order"])
        if name == "tell":
            calls.append((name,))
        elif name == "cut":
            calls.append((name, chance.randrange(12), chance.choice([0, 0, 0, 1, 1, 2])))
        else:
            calls.append((name, chance.choice(hydras + wrong)))
    return calls


class Interface(unittest.TestCase):
    def test_how_many_stands_before_each_answer(self):
        calls = [0, 3, 0, 1, 2, 2, 1, 2, 1, 3, 2, 0, 1, 2, 1, 0, 7]
        self.assertEqual(answers(calls), [1, 0, 4, 3, 0, 1, 2, 1, 3, 1, 1, 4, 3, 0, 1, 1, 1, -22])

    def test_a_refusal_is_one_number_alone(self):
        calls = line(start([0, 1, 2]), start([]), cut(0, 0), cut(2, GREATEST), order([0, 0]))
        self.assertEqual(answers(calls), [1, 0, 1, -22, 1, -22, 1, -28, 1, -22])

    def test_fifty_calls(self):
        calls = line(start([0, 1, 2]), *[tell()] * 49)
        self.assertEqual(answers(calls), [1, 0] + [4, 3, 0, 1, 2] * 49)
        calls = line(start([0] + [1] * 49), *[cut(1, GREATEST)] * 49)
        self.assertEqual(split(answers(calls)), [[0]] + [[49 - k] for k in range(49)])

    def test_numbers_of_depths_that_look_like_calls(self):
        calls = line(start([0, 1, 2, 3]), order([0, 1, 2, 3]), start([3, 2, 1, 0]), tell())
        self.assertEqual(split(answers(calls)), [[0], [0], [-22], [4, 0, 1, 2, 3]])

    def test_a_full_line(self):
        calls = line(start([0] + [1] * 15000), order([0] + [1] * 15000), *[order([0] + [1] * 20)] * 43)
        calls = calls + start([0] + [1] * (31000 - len(calls) - 3))
        self.assertEqual(len(calls), 31000)
        self.assertEqual(split(answers(calls)), [[0], [0]] + [[1]] * 43 + [[0]])

    def test_kinds(self):
        found = answers(line(start([0, 1, 2]), order([0, 1]), order([0, 1, 2]), cut(2, 1), tell(), cut(0, 0)))
        self.assertIs(type(found), list)
        for number in found:
            self.assertIs(type(number), int)

    def test_what_is_handed_in_stays(self):
        calls = line(start([0, 1, 2, 2]), cut(2, 3), tell(), order([0, 1, 1]), start([0, 2]), cut(1, 0), tell())
        guarded = Guarded(calls)
        self.assertEqual(answers(guarded), answers(list(calls)))
        self.assertEqual(list(guarded), calls)
        kept = list(calls)
        answers(calls)
        self.assertEqual(calls, kept)

    def test_the_answer_is_the_callers_own(self):
        calls = line(start([0, 1]), tell())
        first = answers(calls)
        first.append(99)
        first[0] = 77
        self.assertEqual(answers(calls), [1, 0, 3, 2, 0, 1])
        self.assertEqual(calls, [0, 2, 0, 1, 2])

    def test_nothing_is_kept(self):
        calls = line(start([0, 1, 2]), cut(2, 2), tell())
        others = line(start([0, 1]), tell())
        due = answers(calls)
        self.assertEqual(split(due), [[0], [4], [4, 0, 1, 1, 1]])
        self.assertEqual(split(answers(others)), [[0], [2, 0, 1]])
        self.assertEqual(answers(calls), due)

    def test_nothing_is_printed(self):
        out = io.StringIO()
        err = io.StringIO()
        with contextlib.redirect_stdout(out), contextlib.redirect_stderr(err):
            answers(line(start([0, 1, 2]), cut(2, 2), tell(), order([0]), cut(0, 0)))
        self.assertEqual(out.getvalue() + err.getvalue(), "")

    def test_many_lines_against_the_plain_model(self):
        chance = random.Random(16384)
        hydras = small_hydras(6)
        for k in range(300):
            calls = random_calls(chance, hydras)
            self.assertEqual(split(answers(written(calls))), plain_answers(calls), calls)


if __name__ == "__main__":
    unittest.main()
