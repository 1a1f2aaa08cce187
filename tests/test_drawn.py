"""Drawn questions over drawn tables, held against the second program. The draws are the same each time."""

import re
import unittest

from tests.helper import BETTER_WORDS, Draw, bettered, judged, question_of, ran, second_asked, second_better, second_fits, second_judge, second_run
from tests.helper import write


class Judged(unittest.TestCase):
    def test_right_questions(self):
        for seed in range(1500):
            draw = Draw(seed)
            tables = draw.tables()
            lines, columns = draw.right_lines([columns for columns, _ in tables], 6)
            told = judged(question_of(lines), *[write(*table) for table in tables])
            self.assertEqual(told, write(columns, [])[:-1], (seed, lines))

    def test_questions_as_they_come(self):
        for seed in range(3000):
            draw = Draw(seed)
            tables = draw.tables()
            others = [columns for columns, _ in tables]
            lines, columns = draw.right_lines(others, 3)
            line = draw.line(columns, others)
            lines.append(draw.spoilt(line) if draw.chance(60) else line)
            question = question_of(lines)
            texts = [write(*table) for table in tables]
            self.assertEqual(judged(question, *texts), second_judge(question, *texts), (seed, question))

    def test_rows_of_signs(self):
        draw = Draw(7)
        table = "a:whole,b:text\n"
        for _ in range(6000):
            signs = "".join(draw.few(lambda: draw.one(*' ab190/"\\n<=+-*(),:_?e'), 1, 9))
            question = draw.one("with n = ", "where a ", "keep a", "group a", "part ", "", "order ") + signs + "\n"
            self.assertEqual(judged(question, table), second_judge(question, table), question)


class Ran(unittest.TestCase):
    def test_right_questions(self):
        for seed in range(3000):
            draw = Draw(seed)
            tables = draw.tables(9)
            lines, _ = draw.right_lines([columns for columns, _ in tables], 7)
            texts = [write(*table) for table in tables]
            question = question_of(lines)
            self.assertEqual(ran(question, *texts), second_run(question, *texts), (seed, question, texts))

    def test_values_near_the_limits(self):
        refused = 0
        for seed in range(1200):
            draw = Draw(seed, large=True)
            tables = draw.tables(6)
            lines, _ = draw.right_lines([columns for columns, _ in tables], 6)
            texts = [write(*table) for table in tables]
            question = question_of(lines)
            told = second_run(question, *texts)
            refused += told == [9, 6]
            self.assertEqual(ran(question, *texts), told, (seed, lines))
        # both kinds shall be there often
        self.assertTrue(150 < refused < 900, refused)

    def test_questions_as_they_come(self):
        for seed in range(600):
            draw = Draw(seed)
            tables = draw.tables()
            others = [columns for columns, _ in tables]
            lines, columns = draw.right_lines(others, 3)
            line = draw.line(columns, others)
            lines.append(draw.spoilt(line) if draw.chance(60) else line)
            question = question_of(lines)
            texts = [write(*table) for table in tables]
            self.assertEqual(ran(question, *texts), second_run(question, *texts), (seed, question))


class Bettered(unittest.TestCase):
    def test_right_questions(self):
        fitting = set()
        for seed in range(1000):
            draw = Draw(seed, sure=80, words=BETTER_WORDS)
            tables = draw.tables()
            lines, _ = draw.right_lines([columns for columns, _ in tables], 12)
            texts = [write(*table) for table in tables]
            question = question_of(lines)
            fitting |= {rule for rule, _, _ in second_fits(second_asked(question, texts)[0])}
            self.assertEqual(bettered(question, *texts), second_better(question, *texts), (seed, question))
        self.assertEqual(fitting, set(range(1, 11)))

    def test_long_lines(self):
        """Lines whose new ones have about 80 tokens."""
        left_apart = {"where": 0, "order": 0, "keep": 0}
        names = [f"c{k}" for k in range(32)]
        for seed in range(250):
            draw = Draw(seed)

            def line():
                if draw.chance(60):
                    truths = draw.few(lambda: draw.one("", "not ") + draw.one("none ", "none none ") + draw.one(*names), 1, 15)
                    return "where " + "".join(truth + draw.one(" and ", " or ") for truth in truths) + "none c0"
                if draw.chance(50):
                    return "order " + ", ".join(draw.one(*names) + draw.one("", " down") for _ in range(draw.one(3, 25, 25)))
                # some names change places, so that all of them are there behind it
                olds = draw.random.sample(names, draw.one(2, 5, 8))
                news = dict(zip(olds, olds[1:] + olds[:1]))
                return "keep " + ", ".join(f"{name} as {news[name]}" if name in news else name for name in names)

            question = question_of(draw.few(line, 2, 9))
            table = ",".join(f"{name}:whole" for name in names) + "\n"
            told = bettered(question, table)
            self.assertEqual(told, second_better(question, table), (seed, question))
            for word in left_apart:
                left_apart[word] += bool(re.search(rf"^{word} .*\n{word} ", told, re.MULTILINE))
        # without the limit there would be none of them
        self.assertGreater(min(left_apart.values()), 10, left_apart)

    def test_questions_as_they_come(self):
        for seed in range(600):
            draw = Draw(seed)
            tables = draw.tables()
            others = [columns for columns, _ in tables]
            lines, columns = draw.right_lines(others, 3)
            line = draw.line(columns, others)
            lines.append(draw.spoilt(line) if draw.chance(60) else line)
            question = question_of(lines)
            texts = [write(*table) for table in tables]
            told = bettered(question, *texts)
            self.assertEqual(told, second_better(question, *texts), (seed, question))
            self.assertEqual(told if isinstance(told, list) else judged(told, *texts), judged(question, *texts))


if __name__ == "__main__":
    unittest.main()
