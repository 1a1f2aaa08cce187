"""Drawn questions over drawn tables, held against the second program. The draws are the same each time."""

import unittest

from tests.helper import Draw, judged, question_of, ran, second_judge, second_run, write

class Judged(unittest.TestCase):
    def test_right_questions(self):
        for seed in range(1500):
            draw = Draw(seed)
            tables = draw.tables()
            lines, columns = draw.right_lines([columns for columns, _ in tables], 6)
            told = judged(question_of(lines), *[write(*table) for table in tables])
            self.assertEqual(told, write(columns, [])[:-1], (seed, lines))

    def test_questions_as_they_come(self):
        for seed in range(3000):
            draw = Draw(seed)
            tables = draw.tables()
            others = [columns for columns, _ in tables]
            lines, columns = draw.right_lines(others, 3)
            line = draw.line(columns, others)
            lines.append(draw.spoilt(line) if draw.chance(60) else line)
            question = question_of(lines)
            texts = [write(*table) for table in tables]
            self.assertEqual(judged(question, *texts), second_judge(question, *texts), (seed, question))

    def test_rows_of_signs(self):
        draw = Draw(7)
        table = "a:whole,b:text\n"
        for _ in range(6000):
            signs = "".join(draw.few(lambda: draw.one(*' ab190/"\\n<=+-*(),:_?e'), 1, 9))
            question = draw.one("with n = ", "where a ", "keep a", "group a", "part ", "", "order ") + signs + "\n"
            self.assertEqual(judged(question, table), second_judge(question, table), question)


class Ran(unittest.TestCase):
    def test_right_questions(self):
        for seed in range(3000):
            draw = Draw(seed)
            tables = draw.tables(9)
            lines, _ = draw.right_lines([columns for columns, _ in tables], 7)
            texts = [write(*table) for table in tables]
            question = question_of(lines)
            self.assertEqual(ran(question, *texts), second_run(question, *texts), (seed, question, texts))

    def test_values_near_the_limits(self):
        refused = 0
        for seed in range(1200):
            draw = Draw(seed, large=True)
            tables = draw.tables(6)
            lines, _ = draw.right_lines([columns for columns, _ in tables], 6)
            texts = [write(*table) for table in tables]
            question = question_of(lines)
            told = second_run(question, *texts)
            refused += told == [9, 6]
            self.assertEqual(ran(question, *texts), told, (seed, lines))
        # both kinds shall be there often
        self.assertTrue(150 < refused < 900, refused)

    def test_questions_as_they_come(self):
        for seed in range(600):
            draw = Draw(seed)
            tables = draw.tables()
            others = [columns for columns, _ in tables]
            lines, columns = draw.right_lines(others, 3)
            line = draw.line(columns, others)
            lines.append(draw.spoilt(line) if draw.chance(60) else line)
            question = question_of(lines)
            texts = [write(*table) for table in tables]
            self.assertEqual(ran(question, *texts), second_run(question, *texts), (seed, question))


if __name__ == "__main__":
    unittest.main()
