"""The promises over drawn tables: what is written is read, judge's columns are run's, groups, order and windows."""

import unittest
from fractions import Fraction

from tablesteps.tables import read
from tests.helper import BETTER_WORDS, Draw, bettered, compared, judged, numbers, question_of, ran, rows_of, second_fits, second_run, second_step
from tests.helper import write

ROUNDS = 400
SAME = [0, 1]


def drawn_table(seed, most=12):
    draw = Draw(seed)
    columns = draw.columns()
    return draw, columns, draw.rows(columns, most)


class Written(unittest.TestCase):
    def test_what_run_writes_is_a_table(self):
        for seed in range(ROUNDS):
            draw = Draw(seed)
            tables = draw.tables(9)
            lines, _ = draw.right_lines([columns for columns, _ in tables], 5)
            texts = [write(*table) for table in tables]
            told = ran(question_of(lines), *texts)
            self.assertEqual(read(numbers(told)), [0, told.count("\n") - 1], (seed, lines))
            self.assertEqual(ran("", told), told)
            self.assertEqual(judged(question_of(lines), *texts), told.split("\n")[0])

    def test_a_table_is_written_as_it_was_read(self):
        for seed in range(ROUNDS):
            _, columns, rows = drawn_table(seed)
            text = write(columns, rows)
            self.assertEqual(ran("", text), text)
            self.assertEqual(ran("where true\n", text), text)

    def test_one_text_each(self):
        """Two texts are the same table in the same order just if they are one text."""
        for seed in range(ROUNDS):
            draw, columns, rows = drawn_table(seed, 6)
            text = write(columns, rows)
            place = draw.random.randrange(len(text))
            changed = text[:place] + draw.one(*'01/-," \nxft') + text[place + 1:]
            told = compared(1, text, changed)
            self.assertEqual(told[0] == 9, read(numbers(changed))[0] == 9, changed)
            self.assertEqual(told == SAME, changed == text, changed)
            self.assertEqual(compared(1, text, ran("", text)), SAME)

    def test_all_bytes_of_texts(self):
        text = write([("a", "text")], [[(byte,)] for byte in [10, *range(32, 127)]] + [[tuple(range(32, 127))], [()], [None]])
        self.assertEqual(ran("where true\n", text), text)
        self.assertEqual(rows_of('with b = a ++ ""\nkeep b\n', text), text.split("\n")[1:-1])

    def test_steps_one_by_one(self):
        """A question of several steps is what the steps say of one another's answers."""
        for seed in range(ROUNDS):
            draw = Draw(seed)
            tables = draw.tables(9)
            lines, _ = draw.right_lines([columns for columns, _ in tables], 5)
            lines = [line for line in lines if "join 0" not in line and line not in ("plus 0", "minus 0")]
            texts = [write(*table) for table in tables]
            at_once = ran(question_of(lines), *texts)
            if isinstance(at_once, list):
                continue
            for line in lines:
                texts[0] = ran(line + "\n", *texts)
            self.assertEqual(texts[0], at_once, (seed, lines))


def drawn_questions(rounds, large=False):
    """Questions that better ones can often be made of, each with its tables."""
    for seed in range(rounds):
        draw = Draw(seed, large=large, sure=40 if large else 75, words=BETTER_WORDS)
        tables = draw.tables(9)
        lines, _ = draw.right_lines([columns for columns, _ in tables], 9)
        yield question_of(lines), [write(*table) for table in tables]


class Better(unittest.TestCase):
    def test_a_better_question_is_right_and_has_the_same_columns(self):
        for question, texts in drawn_questions(ROUNDS * 2):
            told = bettered(question, *texts)
            columns = judged(question, *texts)
            self.assertIsInstance(columns, str)
            self.assertEqual(judged(told, *texts), columns, question)

    def test_no_rule_fits_a_better_question(self):
        for question, texts in drawn_questions(ROUNDS * 2):
            told = bettered(question, *texts)
            self.assertEqual(second_fits([second_step(line) for line in told.split("\n")[:-1]]), [], question)
            self.assertEqual(bettered(told, *texts), told, question)

    def test_a_better_question_tells_the_same(self):
        changed = 0
        for question, texts in drawn_questions(ROUNDS * 3):
            answered = ran(question, *texts)
            told = bettered(question, *texts)
            if isinstance(answered, str):
                changed += told.count("\n") < question.count("\n")
                self.assertEqual(ran(told, *texts), answered, (question, texts))
        self.assertGreater(changed, ROUNDS)

    def test_a_better_question_tells_the_same_near_the_limits(self):
        refused = 0
        for question, texts in drawn_questions(ROUNDS, large=True):
            answered = ran(question, *texts)
            if isinstance(answered, str):
                self.assertEqual(ran(bettered(question, *texts), *texts), answered, (question, texts))
            else:
                refused += 1
        self.assertTrue(ROUNDS // 20 < refused < ROUNDS // 2, refused)

    def test_a_better_question_may_tell_what_the_first_one_is_too_large_for(self):
        table = "a:whole,d:truth\n" + "1,true\n" * 20 + "2,false\n" * 20
        question = "join 0 on a = a\nwhere a == 3\n"
        self.assertEqual(ran(question, table), [9, 6])
        self.assertEqual(ran(bettered(question, table), table), "a:whole,d:truth\n")


class Groups(unittest.TestCase):
    def test_groups_are_all_rows_once(self):
        for seed in range(ROUNDS):
            draw, columns, rows = drawn_table(seed)
            names = draw.names(columns, 1)
            text = write(columns, rows)
            counts = [int(row.rsplit(",", 1)[1]) for row in rows_of(f"group {names}: rows as counted\n", text)]
            self.assertEqual(sum(counts), len(rows))
            self.assertTrue(all(counts))
            self.assertEqual(rows_of(f"group {names}\n", text), rows_of(f"keep {names}\ndistinct\n", text))
            self.assertEqual(rows_of("group: rows as counted\n", text), [str(len(rows))])

    def test_sums_over_groups_add_up_to_the_wholes(self):
        for seed in range(ROUNDS):
            draw, columns, rows = drawn_table(seed)
            names = draw.names(columns, 1)
            text = write(columns, rows)
            for name, sort in columns:
                if sort in ("whole", "fraction"):
                    whole = rows_of(f"group: sum {name} as total, values {name} as counted\n", text)
                    parts = f"group {names}: sum {name} as part_sum, values {name} as part_count\n"
                    told = rows_of(parts + "group: sum part_sum as total, sum part_count as counted\n", text)
                    self.assertEqual(told, whole if rows else [","])
                    mean, = rows_of(f"group: mean {name} as average\n", text)
                    there = [Fraction(*row[place]) if sort == "fraction" else Fraction(row[place])
                             for row in rows for place in [columns.index((name, sort))] if row[place] is not None]
                    self.assertEqual(Fraction(mean) if mean else None, sum(there) / len(there) if there else None)


class Orders(unittest.TestCase):
    def test_order_changes_nothing_but_order_and_is_steady(self):
        for seed in range(ROUNDS):
            draw, columns, rows = drawn_table(seed)
            keys = draw.keys(columns)
            text = write(columns, rows)
            told = rows_of(f"order {keys}\n", text)
            self.assertEqual(sorted(told), sorted(text.split("\n")[1:-1]))
            self.assertEqual(compared(0, text, ran(f"order {keys}\n", text)), SAME)
            self.assertEqual(rows_of(f"order {keys}\norder {keys}\n", text), told)
            numbered = rows_of(f"window: number as stood\norder {keys}\nwindow by {keys}: rank as ranked\n", text)
            last = (0, 0)
            for row in numbered:
                stood, ranked = map(int, row.rsplit(",", 2)[1:])
                self.assertLess(last, (ranked, stood))
                last = (ranked, stood)

    def test_the_ends_of_an_order_are_least_and_greatest(self):
        for seed in range(ROUNDS):
            _, columns, rows = drawn_table(seed)
            text = write(columns, rows)
            for name, sort in columns:
                if sort != "truth":
                    ordered = rows_of(f"keep {name}\nwhere not none {name}\norder {name}\n", text)
                    told, = rows_of(f"group: least {name} as low, greatest {name} as high\n", text)
                    self.assertEqual(told, f"{ordered[0]},{ordered[-1]}" if ordered else ",")

    def test_windows_take_away_nothing(self):
        for seed in range(ROUNDS):
            draw, columns, rows = drawn_table(seed)
            by = f" by {draw.keys(columns)}" if draw.chance(70) else ""
            told = ", ".join(f"{draw.one('number', 'rank', 'before ' + columns[0][0])} as told{k}" for k in range(draw.one(1, 2, 3)))
            text = write(columns, rows)
            names = ", ".join(name for name, _ in columns)
            self.assertEqual(compared(1, text, ran(f"window {draw.names(columns, 0)}{by}: {told}\nkeep {names}\n", text)), SAME)

    def test_numbers_in_a_window_are_all_from_1(self):
        for seed in range(ROUNDS):
            draw, columns, rows = drawn_table(seed)
            names, keys = draw.names(columns, 1), draw.keys(columns)
            text = write(columns, rows)
            told = rows_of(f"window {names} by {keys}: number as told\norder told\ngroup {names}: rows as counted, last told as most\n", text)
            for row in told:
                counted, most = row.rsplit(",", 2)[1:]
                self.assertEqual(counted, most)

    def test_the_last_sum_of_a_window_is_the_groups(self):
        for seed in range(ROUNDS):
            draw, columns, rows = drawn_table(seed)
            text = write(columns, rows)
            for name, sort in columns:
                if sort in ("whole", "fraction"):
                    keys, names = draw.keys(columns), draw.names(columns, 1)
                    told = rows_of(f"order {keys}\nwindow {names} by {keys}: sum {name} as so_far\ngroup {names}: last so_far as total\n", text)
                    self.assertEqual(told, rows_of(f"order {keys}\ngroup {names}: sum {name} as total\n", text))


class OneSentence(unittest.TestCase):
    def test_what_the_steps_say_and_a_better_question_the_same(self):
        """All calls together, over questions of all kinds of steps, with values near the limits and far from them."""
        for seed in range(ROUNDS):
            draw = Draw(seed + 5000, large=seed % 4 == 0, sure=seed % 100)
            tables = draw.tables(8)
            texts = [write(*table) for table in tables]
            lines, columns = draw.right_lines([columns for columns, _ in tables], 8)
            question = question_of(lines)
            told = ran(question, *texts)
            further = bettered(question, *texts)
            self.assertEqual([read(numbers(text)) for text in texts], [[0, len(rows)] for _, rows in tables])
            self.assertEqual(judged(question, *texts), write(columns, [])[:-1])
            self.assertEqual(judged(further, *texts), write(columns, [])[:-1])
            self.assertEqual(told, second_run(question, *texts), question)
            if isinstance(told, str):
                self.assertEqual(compared(1, told, ran(further, *texts)), SAME, question)
                self.assertEqual(second_run(further, *texts), told, question)

    def test_of_all_tables(self):
        """One question and its better one, asked of many tables with the same columns."""
        for seed in range(60):
            draw = Draw(seed, sure=80, words=BETTER_WORDS)
            others = [columns for columns, _ in draw.tables()]
            question = question_of(draw.right_lines(others, 9)[0])
            further = bettered(question, *[write(columns, []) for columns in others])
            for _ in range(6):
                texts = [write(columns, draw.rows(columns, 9)) for columns in others]
                self.assertEqual(bettered(question, *texts), further)
                told = ran(question, *texts)
                if isinstance(told, str):
                    self.assertEqual(compared(1, told, ran(further, *texts)), SAME, (question, texts))


if __name__ == "__main__":
    unittest.main()
