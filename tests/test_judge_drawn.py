"""Points 47 to 59 on drawn tasks: the judge answers as a direct reading does, and no claim is too high."""

import random
import unittest
from unittest import mock

from drawnlines import DrawnLines, plain_line, slow_judge, spoiled
from randoms import Draw, lively_case
from sureplan.certificates import certificate
from sureplan.judge import Judge
from sureplan.search import first_plan


class SameAnswersTest(unittest.TestCase):
    def compare(self, seed, task, state, lines):
        slow, fast = slow_judge(task, state), Judge(task, state)
        for line in lines:
            self.assertEqual(fast.line(line), slow.line(line), (seed, line))
            self.assertEqual(fast.claim(), slow.claim(), (seed, line))

    def drawn(self, source, task, good):
        """Good lines, mixed with drawn ones, some of which are malformed."""
        lines = []
        while good or len(lines) < 60:
            line = plain_line(source, len(task.all_facts()), len(task.all_numbers()), len(task.all_steps()))
            if good and source.random() < 0.8:
                line = good.pop(0)
            lines.append(spoiled(source, line) if source.random() < 0.1 else line)
        return lines

    def test_drawn_lines(self):
        for seed in range(150):
            source = random.Random(seed)
            task, state, _ = lively_case(source)
            self.compare(seed, task, state, self.drawn(source, task, []))

    def test_right_lines_with_others_between_them(self):
        for seed in range(150):
            source = random.Random(seed)
            task, state, _ = lively_case(source)
            good = DrawnLines(source, slow_judge(task, state)).certificate()
            self.compare(seed, task, state, self.drawn(source, task, good))

    def test_certificates_with_changed_lines(self):
        for seed in range(150):
            source = random.Random(seed)
            task, state, _ = lively_case(source)
            lines = [spoiled(source, line) if source.random() < 0.05 else line for line in certificate(task, state)]
            self.compare(seed, task, state, lines[:80])

    def test_answers_that_are_forgotten(self):
        for seed in range(30):
            source = random.Random(seed)
            task, state, _ = lively_case(source)
            good = DrawnLines(source, slow_judge(task, state)).certificate()
            with mock.patch("sureplan.boxmoves.MOST_KEPT", 5):
                self.compare(seed, task, state, good)

    def test_large_formulas_and_effects(self):
        for seed in range(100):
            source = random.Random(seed)
            draw = Draw(source)
            task = draw.task(source.randint(1, 4))
            state = draw.state(task)
            self.compare(seed, task, state, self.drawn(source, task, certificate(task, state)[:40]))


class ClaimTest(unittest.TestCase):
    """Points 58 and 59."""

    def check(self, seed, task, state, lines):
        """Passes lines; after each line that is right, the claim must not be too high."""
        plan = first_plan(task, state)
        judge = Judge(task, state)
        right = []
        for line in lines:
            if judge.line(line) == "right":
                right.append(line)
        claim = judge.claim()
        if claim is not None and plan is not None:
            self.assertNotEqual(claim, "none", seed)
            self.assertLessEqual(claim, plan[0], seed)
        other = Judge(task, state)
        self.assertEqual([other.line(line) for line in right], ["right"] * len(right), seed)
        self.assertEqual(other.claim(), claim, seed)
        return claim

    def test_right_lines(self):
        claims = []
        for seed in range(300):
            source = random.Random(seed)
            task, state, plan = lively_case(source)
            lines = DrawnLines(source, slow_judge(task, state)).certificate()
            claims.append(self.check(seed, task, state, lines))
        self.assertGreater(len([claim for claim in claims if claim not in (0, None)]), 50)

    def test_certificates_of_other_tasks(self):
        before = [("claim", 0)]
        for seed in range(400):
            source = random.Random(seed)
            task, state, _ = lively_case(source, least=3)
            self.check(seed, task, state, before)
            self.check(seed, task, Draw(source).state(task), before)
            before = certificate(task, state)
            self.check(seed, task, Draw(source).state(task), before)

    def test_certificates_for_other_goals(self):
        for seed in range(200):
            source = random.Random(seed)
            task, state, _ = lively_case(source)
            lines = certificate(task, state, ("false",)) + [("claim", 3), ("claim", 1)]
            self.check(seed, task, state, lines)

    def test_changed_lines(self):
        for seed in range(300):
            source = random.Random(seed)
            task, state, plan = lively_case(source, least=2)
            lines = certificate(task, state)
            # Greater labels and claims, shares told anew, and lines that are left out or stand twice.
            for _ in range(3):
                place = source.randrange(len(lines))
                line = lines[place]
                if line[0] in ("label", "claim") and source.random() < 0.8:
                    line = (line[0], None if line[1] is None or source.random() < 0.3 else line[1] + 1)
                lines = lines[:place] + [line] * source.choice((0, 1, 1, 1, 2)) + lines[place + 1:]
            top = 0 if plan is None else plan[0]
            self.check(seed, task, state, lines + [("label", 0), ("claim", None), ("claim", top + 1), ("claim", top)])

    def test_drawn_lines(self):
        for seed in range(150):
            source = random.Random(seed)
            task, state, _ = lively_case(source)
            sizes = (len(task.all_facts()), len(task.all_numbers()), len(task.all_steps()))
            lines = [plain_line(source, *sizes) for _ in range(80)]
            self.check(seed, task, state, lines + [("label", 0)] * 80 + [("claim", None), ("claim", 99), ("claim", 1)])


if __name__ == "__main__":
    unittest.main()
