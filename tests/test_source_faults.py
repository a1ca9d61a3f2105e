"""The faults of texts that are read as plans: their lines, columns and words."""

import random
import unittest

from asforetold.errors import TextFault
from asforetold.plans import check_plan
from asforetold.sources import SOURCE_MOST, read_plan
from tests.trees import flat, grown, height, job, jobs, lay, one_of_each_word, random_plans, runs, tokens

WORDS = ("job", "all", "race", "any", "pool", "timeout", "sequence", "orelse", "retry")


def fault_of(text):
    """The line, the column and the words of the fault of a text; None if it is a plan."""
    try:
        read_plan(text)
    except TextFault as fault:
        return (fault.line, fault.column, fault.words)
    return None


def strangers(words):
    """Tokens that cannot stand where a fault has these words."""
    found = ["?", "%", "J", ";", "jobs", "x"]
    if words != "expected a plan":
        found.append("job")
    if words != "expected (":
        found.append("(")
    if words not in ("expected )", "expected , or )"):
        found.append(")")
    if words not in ("expected ,", "expected , or )"):
        found.append(",")
    if words != "expected a number":
        found.append("7")
    else:
        found.extend(["00", "01", "007", "0123456"])
    if words != "expected + or -":
        found.extend(["+", "-"])
    if words != "expected !":
        found.append("!")
    return found


def text_of(tree):
    return "".join([sign for sign, _ in tokens(tree)])


def sample_trees():
    return [one_of_each_word()] + [grown(plan, len(plan) - 1) for plan in random_plans(21, 25, 4)]


class TokenTest(unittest.TestCase):
    def test_the_text_ends_at_any_token(self):
        dice = random.Random(22)
        for tree in sample_trees():
            row = tokens(tree)
            for at, (_, words) in enumerate(row):
                text, places = lay([sign for sign, _ in row[:at]], dice)
                if len(text) <= SOURCE_MOST:
                    self.assertEqual(fault_of(text), (*places[-1], words), text)

    def test_another_token_at_any_place(self):
        dice = random.Random(23)
        for tree in sample_trees():
            row = tokens(tree)
            signs = [sign for sign, _ in row]
            for at, (_, words) in enumerate(row):
                for stranger in strangers(words):
                    text, places = lay(signs[:at] + [stranger] + signs[at + dice.randrange(2):], dice)
                    if len(text) <= SOURCE_MOST:
                        self.assertEqual(fault_of(text), (*places[at], words), text)

    def test_one_more_token_behind_the_end(self):
        dice = random.Random(24)
        for tree in sample_trees():
            signs = [sign for sign, _ in tokens(tree)]
            for more in ("job", "x", "7", ",", ")", "(", "!", "?", "A"):
                text, places = lay(signs + [more], dice)
                if len(text) <= SOURCE_MOST:
                    self.assertEqual(fault_of(text), (*places[-2], "expected the end"), text)


class PlaceTest(unittest.TestCase):
    def faulty(self, *rows):
        for text, line, column, words in rows:
            self.assertEqual(fault_of(text), (line, column, words), repr(text))

    def test_where_the_text_ends(self):
        self.faulty(
            ("", 1, 1, "expected a plan"), (" ", 1, 2, "expected a plan"), ("\n", 2, 1, "expected a plan"),
            ("\n \n  ", 3, 3, "expected a plan"), ("job", 1, 4, "expected ("), ("job\n", 2, 1, "expected ("),
            ("job(\n\n 4 \n", 4, 1, "expected ,"), ("all(job(1,+1,0)", 1, 16, "expected , or )"),
            ("all(job(1,+1,0),\n ", 2, 2, "expected a plan"),
        )

    def test_where_a_token_stands(self):
        self.faulty(
            ("jab(4,+1,0)", 1, 1, "expected a plan"), ("Job(4,+1,0)", 1, 1, "expected a plan"),
            ("jobs(4,+1,0)", 1, 1, "expected a plan"), ("jobz(4,+1,0)", 1, 1, "expected a plan"),
            ("ajob(4,+1,0)", 1, 1, "expected a plan"), ("joB(4,+1,0)", 1, 1, "expected a plan"),
            ("job{4,+1,0)", 1, 4, "expected ("), ("job`4,+1,0)", 1, 4, "expected ("),
            ("job4(4,+1,0)", 1, 4, "expected ("),
            ("job (4\n,1,0)", 2, 2, "expected + or -"), ("job(4,+1,0,5)", 1, 12, "expected !"),
            ("job(4,+1,0,!)", 1, 13, "expected a number"), ("job(4,+1,0,!5,6)", 1, 14, "expected )"),
            ("job(4,+1,0,!5", 1, 14, "expected )"), ("job(4,+1 2,0)", 1, 10, "expected ,"),
            ("job(4,+1,0);", 1, 12, "expected the end"), ("job(4,+1,0)\n\n job(4,+1,0)", 3, 2, "expected the end"),
            ("all()", 1, 5, "expected a plan"), ("all(job(1,+1,0),)", 1, 17, "expected a plan"),
            ("all(job(1,+1,0) job(1,+1,0))", 1, 17, "expected , or )"),
            ("pool(job(1,+1,0))", 1, 6, "expected a number"),
            ("pool(2 job(1,+1,0))", 1, 8, "expected ,"), ("timeout(5,job(1,+1,0),job(1,+1,0))", 1, 22, "expected )"),
            ("orelse(job(1,+1,0))", 1, 19, "expected ,"), ("orelse(job(1,+1,0),job(1,+1,0),", 1, 31, "expected )"),
            ("retry(1,job(1,+1,0))", 1, 9, "expected a number"), ("retry(1,2,3)", 1, 11, "expected a plan"),
            ("job(-4,+1,0)", 1, 5, "expected a number"), ("job(4,+-1,0)", 1, 8, "expected a number"),
            ("job(4,++1,0)", 1, 8, "expected a number"), ("(job(4,+1,0))", 1, 1, "expected a plan"),
        )

    def test_unnecessary_zeros(self):
        self.faulty(
            ("job(04,+1,0)", 1, 5, "expected a number"), ("job(4,+00,0)", 1, 8, "expected a number"),
            ("job(4,+1,00)", 1, 10, "expected a number"), ("job(4,+1,0,!007)", 1, 13, "expected a number"),
            ("pool(00,job(1,+1,0))", 1, 6, "expected a number"),
            ("timeout(0001001,job(1,+1,0))", 1, 9, "expected a number"),
            ("job(0 4,+1,0)", 1, 7, "expected ,"),
        )

    def test_the_first_fault_counts(self):
        self.faulty(
            ("job(1001,?", 1, 5, "number too large"), ("job(?,+1000,0)", 1, 5, "expected a number"),
            ("all(job(1,+1,101),job(x", 1, 14, "number too large"), ("pool(0,pool(7,x", 1, 6, "number too small"),
        )


class BoundTest(unittest.TestCase):
    def test_numbers(self):
        for before, most, after in (
            ("job(", 1000, ",+1,0)"), ("job(1,+", 999, ",0)"), ("job(1,-", 999, ",0)"), ("job(1,+1,", 100, ")"),
            ("job(1,+1,", 100, ",!5)"), ("job(1,+1,0,!", 999, ")"), ("pool(", 6, ",job(1,+1,0))"),
            ("timeout(", 1000, ",job(1,+1,0))"), ("retry(", 5, ",0,job(1,+1,0))"), ("retry(1,", 100, ",job(1,+1,0))"),
        ):
            for number in (1, most - 1, most):
                self.assertIsNone(fault_of(f"{before}{number}{after}"))
            for number in (most + 1, most + 2, 10 * most, 9999, 10000, 99999999, 10 ** 900):
                self.assertEqual(fault_of(f"{before}{number}{after}"), (1, len(before) + 1, "number too large"))
                self.assertEqual(fault_of(f"\n\n {before}{number}{after}"), (3, len(before) + 2, "number too large"))

    def test_numbers_of_0(self):
        self.assertEqual(fault_of("pool(0,job(1,+1,0))"), (1, 6, "number too small"))
        self.assertEqual(fault_of("all(job(1,+1,0),\npool( 0,job(1,+1,0)))"), (2, 7, "number too small"))
        for text in ("job(0,+0,0,!0)", "timeout(0,job(0,-0,0))", "retry(0,0,job(0,+0,0))"):
            self.assertIsNone(fault_of(text))

    def test_depth(self):
        for before in ("all(", "race(", "any(", "sequence(", "pool(2,", "timeout(4,", "retry(0,1,"):
            for many in (6, 7):
                self.assertIsNone(fault_of(before * many + "job(1,+1,0)" + ")" * many))
            for inner in ("job(1,+1,0)", "all(job(1,+1,0))", "job(", "race?"):
                for many in (8, 9):
                    text = before * many + inner + ")" * many
                    self.assertEqual(fault_of(text), (1, 8 * len(before) + 1, "too deep"))

    def test_depth_of_both_parts_of_an_orelse(self):
        ends = ",job(1,+1,0))" * 7
        self.assertIsNone(fault_of("orelse(" * 7 + "job(1,+1,0)" + ends))
        self.assertEqual(fault_of("orelse(" * 7 + "any(job(1,+1,0))" + ends), (1, 54, "too deep"))
        head = "orelse(job(1,+1,0)," * 7
        self.assertIsNone(fault_of(head + "job(1,+1,0)" + ")" * 7))
        self.assertEqual(fault_of(head + "all(\njob(1,+1,0)" + ")" * 8), (2, 1, "too deep"))

    def test_parts(self):
        for before in ("all(", "race(", "any(", "sequence(", "pool(2,"):
            parts = ["job(1,+1,0)"] * 6
            self.assertIsNone(fault_of(before + ",".join(parts) + ")"))
            for many in (7, 8):
                text = before + ",\n".join(["job(1,+1,0)"] * many) + ")"
                self.assertEqual(fault_of(text), (7, 1, "too many parts"))
            self.assertEqual(fault_of(before + ",".join(parts) + ",all"), (1, len(before) + 73, "too many parts"))
            self.assertEqual(fault_of(before + ",".join(parts) + ",jab"), (1, len(before) + 73, "expected a plan"))
            self.assertEqual(fault_of(before + ",".join(parts) + ",)"), (1, len(before) + 73, "expected a plan"))

    def test_parts_of_parts_are_counted_by_themselves(self):
        six = "all(" + ",".join(["job(1,+1,0)"] * 6) + ")"
        self.assertIsNone(fault_of("race(" + ",".join([six] * 5) + ")"))

    def test_nodes(self):
        for many in range(36, 45):
            row = tokens(with_nodes(many))
            begun = [at for at, (sign, _) in enumerate(row) if sign in WORDS]
            self.assertEqual(len(begun), many)
            text, places = lay([sign for sign, _ in row], random.Random(many))
            expected = None if many <= 40 else (*places[begun[40]], "too many nodes")
            self.assertEqual(fault_of(text), expected)

    def test_runs(self):
        for many in range(50, 75):
            tree = with_runs(many)
            self.assertEqual(runs(tree), many)
            text, places = lay([sign for sign, _ in tokens(tree)], random.Random(many))
            self.assertEqual(fault_of(text), None if many <= 60 else (*places[-1], "too many runs"))

    def test_runs_of_retries_within_one_another(self):
        rows = (((5, 5), 36), ((5, 5, 1), 72), ((2, 4, 3), 60), ((4, 2, 3), 60), ((0, 5, 0, 5, 0, 1), 72))
        for retries, many in rows:
            tree = job()
            for number in retries:
                tree = ("retry", number, 0, tree)
            text = text_of(tree)
            expected = None if many <= 60 else (1, len(text) + 1, "too many runs")
            self.assertEqual(fault_of(text), expected)
            self.assertEqual(fault_of(text + "\n "), None if many <= 60 else (2, 2, "too many runs"))
            self.assertEqual(fault_of(text + " ,"), (1, len(text) + 2, "expected the end"))

    def test_which_comes_first_at_one_token(self):
        deep = "timeout(1," * 7
        seven = "all(" + "job(1,+1,0)," * 6
        self.assertEqual(fault_of(deep + seven), (1, len(deep) + 5, "too deep"))
        # 40 nodes have begun, the last of them eight deep: the next one within it is the 41st and nine deep.
        nodes = "all(" + ("all(" + "job(1,+1,0)," * 5 + "job(1,+1,0)),") * 4 + "all(job(1,+1,0),job(1,+1,0)),"
        self.assertEqual(nodes.count("("), 32)
        full = nodes + "all(job(1,+1,0)," + "all(" * 6
        self.assertEqual(full.count("("), 40)
        self.assertEqual(fault_of(full + "job(1,+1,0)"), (1, len(full) + 1, "too deep"))
        self.assertEqual(fault_of(full + "jab(1,+1,0)"), (1, len(full) + 1, "expected a plan"))
        # A seventh part that is the 41st node.
        nodes = "all(" + ("all(" + "job(1,+1,0)," * 5 + "job(1,+1,0)),") * 5
        full = nodes + "job(1,+1,0),"
        self.assertEqual(fault_of(full + "job(1,+1,0)"), (1, len(full) + 1, "too many parts"))
        full = nodes + "race(any(job(1,+1,0)),job(1,+1,0)),"
        self.assertEqual(full.count("("), 40)
        self.assertEqual(fault_of(full + "job(1,+1,0)"), (1, len(full) + 1, "too many parts"))
        self.assertEqual(fault_of(full + "jobs(1,+1,0)"), (1, len(full) + 1, "expected a plan"))
        full = nodes + "race(any(job(1,+1,0)),job(1,+1,0),"
        self.assertEqual(fault_of(full + "job(1,+1,0)"), (1, len(full) + 1, "too many nodes"))

    def test_a_part_too_many_that_is_too_deep(self):
        deep = "timeout(1," * 6 + "timeout(1,"
        text = deep + "all("
        self.assertEqual(fault_of(text + "job(1,+1,0)"), (1, len(text) + 1, "too deep"))
        seven = "timeout(1," * 6 + "all(" + "job(1,+1,0)," * 6
        self.assertEqual(fault_of(seven + "job(1,+1,0)"), (1, len(seven) + 1, "too many parts"))

    def test_what_is_read_is_a_plan(self):
        for tree in [with_nodes(40), with_runs(60)]:
            plan = read_plan(text_of(tree))
            self.assertEqual(plan, flat(tree))
            self.assertIsNone(check_plan(plan))
            self.assertLessEqual(height(tree), 8)


def with_nodes(many):
    """A tree of so many nodes, from 36 to 44."""
    parts = [("all", jobs(6)) for _ in range(5)]
    rest = many - 37
    if rest < 0:
        return ("sequence", (*parts[:4], ("all", jobs(5)), job()))
    if rest == 0:
        return ("sequence", (*parts, job()))
    return ("sequence", (*parts, ("race", jobs(rest)) if rest <= 6 else ("race", (*jobs(5), ("any", jobs(rest - 6))))))


def with_runs(many):
    """A tree of so many job runs, from 50 to 74."""
    eighteen = ("retry", 2, 0, ("all", jobs(6)))
    fifteen = ("retry", 2, 0, ("all", jobs(5)))
    rest = many - 48
    return ("sequence", (eighteen, fifteen, fifteen, many_jobs(rest)))


def many_jobs(many):
    """A tree of so many jobs, which run once, or twice where they are many."""
    if many <= 6:
        return ("all", jobs(many))
    half = many // 2
    if many % 2 == 1:
        return ("all", (job(), many_jobs(many - 1)))
    return ("retry", 1, 0, many_jobs(half))


if __name__ == "__main__":
    unittest.main()
