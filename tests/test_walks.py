"""Lines of many calls, held against a model that is written another way."""

import itertools
import unittest

from icerink.rink import answers
from tests.helper import parted
from tests.lines import line_of_calls
from tests.model import Retold

# Each call and each refusal that the words name of it.
DUE = {
    0: (-22,), 1: (-22, -28), 2: (-2, -22, -17), 3: (-22, -16, -28), 4: (-22, -16, -12), 5: (-22, -12), 6: (-22, -75),
    7: (-22, -13, -28), 8: (-22, -12), 9: (-2, -22, -28), 10: (-2, -12), 11: (-2, -22, -6), 12: (-2, -22, -12),
    13: (-22, -16), 14: (-22, -28), 15: (-6,), 16: (-2, -6), 17: (), 18: (-33,), 19: (-33,), 20: (-22, -33), 21: (-22,),
    22: (-6,), 23: (-22, -6), 24: (-2,), 25: (-2,), 26: (-2, -33), 27: (), 28: (), 29: (), 30: (), 31: (-2,), 32: (-2,),
    33: (),
}


class Walks(unittest.TestCase):
    def walk(self, seed, count):
        calls = line_of_calls(seed, count)
        model = Retold()
        told = parted(answers(list(itertools.chain(*calls))))
        seen = set()
        for call, answer in zip(calls, told, strict=True):
            self.assertEqual(answer, model.call(call[0], call[1:]), (seed, call))
            seen.add((call[0], min(answer[0], 0)))
        return seen

    def test_as_the_model_answers(self):
        seen = set()
        for seed in range(110):
            seen |= self.walk(seed, 1000 if seed < 30 else 300)
        due = {(number, refusal) for number in DUE for refusal in DUE[number] + (0,)}
        self.assertEqual(seen, due)
