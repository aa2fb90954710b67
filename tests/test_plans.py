import itertools
import random
import unittest

from fewbreak.besides import beside
from fewbreak.errors import BadRun, CantAnswer, TooMany, UnlikeParts
from fewbreak.letters import Letters
from fewbreak.plans import is_plan, plan, plan_depth
from fewbreak.rules import all_rule, both, each, few, gives, led, none_rule, same
from fewbreak.runs import read_lot
from plain import (IO, ONE, S, THREE, Case, five, greatest_parts, in_order, keeps, machine_of, runs, some_lot, some_rule)

BACK = Letters(("s", "10"))
LOT = read_lot(IO, "00 01 10")
QUESTIONS = [same(IO, "in"), same(IO, "out")]
WISH = both(IO, *QUESTIONS)
PLAN = [((0,), -1), ((0, 1), 1), ((0, 1, 2), 0), ((1,), -1), ((2,), -1)]


def drawn(seed):
    """Questions, a wish and a lot, such that each run keeps each question alone."""
    source = random.Random(seed)
    letters = (ONE, S, S, THREE, IO, IO)[seed % 6]
    lot = some_lot(letters, source, 6)
    pairs = [same(letters), same(letters, *letters.names), led(letters, [], letters.names), same(letters, letters.names[0]),
             led(letters, letters.names[:1], letters.names[1:])]
    questions = []
    for at in range(source.randint(0, 4)):
        rule = some_rule(letters, seed * 10 + at, deep=1, most=9) if source.random() < 0.5 else source.choice(pairs)
        if all(keeps(rule, [run]) for run in lot):
            questions.append(rule)
    wish = some_rule(letters, seed + 7000, deep=source.randint(0, 1), most=9)
    if source.random() < 0.5:
        wish = source.choice(pairs)
    if seed % 4 == 0:
        # weak questions and a strong wish make deep plans
        weak = [same(letters)] + [led(letters, [], [name]) for name in letters.names]
        weak.extend([few(2, rule) for rule in weak])
        return source.sample(weak, min(3, len(weak))), same(letters, *letters.names), lot
    return questions, wish, lot


def depth_of(questions, wish, lot, part, known):
    """The depth of a part, read straight from the document, and the first question that gives it."""
    if part not in known:
        runs_of_part = [lot[at] for at in part]
        best = (None, -1)
        if keeps(wish, runs_of_part):
            best = (0, -1)
        else:
            for index, question in enumerate(questions):
                answers = [tuple(lot.index(run) for run in answer) for answer in greatest_parts(question, runs_of_part)]
                if part in answers:
                    continue
                depths = [depth_of(questions, wish, lot, answer, known)[0] for answer in answers]
                if None not in depths and (best[0] is None or 1 + max(depths) < best[0]):
                    best = (1 + max(depths), index)
        known[part] = best
    return known[part]


def plan_of(questions, wish, lot):
    """The plan, put together from the depths."""
    known = {}
    whole = tuple(range(len(lot)))
    if depth_of(questions, wish, lot, whole, known)[0] is None:
        return None
    found, waiting = {}, [whole]
    while waiting:
        part = waiting.pop()
        found[part] = depth_of(questions, wish, lot, part, known)[1]
        if found[part] >= 0:
            for answer in greatest_parts(questions[found[part]], [lot[at] for at in part]):
                waiting.append(tuple(lot.index(run) for run in answer))
    return sorted(found.items())


def right(questions, wish, lot, pairs):
    """Whether pairs are right as a plan, read straight from the document."""
    held = [part for part, _ in pairs]
    if len(set(held)) < len(held) or tuple(range(len(lot))) not in held:
        return False
    for part, question in pairs:
        if list(part) != sorted(set(part) & set(range(len(lot)))):
            return False
        runs_of_part = [lot[at] for at in part]
        if question == -1:
            if not keeps(wish, runs_of_part):
                return False
        elif question not in range(len(questions)):
            return False
        else:
            for answer in greatest_parts(questions[question], runs_of_part):
                if len(answer) >= len(part) or tuple(lot.index(run) for run in answer) not in held:
                    return False
    return True


class PlanTest(Case):
    def test_example(self):
        self.assertEqual(plan(QUESTIONS, WISH, LOT), PLAN)
        self.assertEqual(plan_depth(QUESTIONS, WISH, LOT), 2)
        self.assertIs(is_plan(QUESTIONS, WISH, LOT, PLAN), True)

    def test_against_a_search_of_its_own(self):
        depths = {}
        for seed in range(400):
            questions, wish, lot = drawn(seed)
            ordered = in_order(wish.letters, lot)
            wanted = depth_of(questions, wish, ordered, tuple(range(len(ordered))), {})[0]
            depths[wanted] = depths.get(wanted, 0) + 1
            self.assertEqual(plan_depth(questions, wish, lot), wanted)
            found = plan(tuple(questions), wish, lot + lot[:2])
            self.assertEqual(found, plan_of(questions, wish, ordered))
            if found is not None:
                self.assertTrue(all(type(pair) is tuple and type(pair[0]) is tuple for pair in found))
                self.assertTrue(is_plan(questions, wish, lot, found))
        self.assertTrue({None, 0, 1, 2} <= set(depths), depths)
        self.assertGreater(min(depths[None], depths[0], depths[1]), 30)

    def test_lots_without_a_depth(self):
        lot = read_lot(IO, "00 01")
        for questions in ([], [all_rule(IO)], [same(IO, "in")], [same(IO), same(IO, "in"), few(1, same(IO))]):
            self.assertIsNone(plan(questions, same(IO, "out"), lot))
            self.assertIsNone(plan_depth(questions, same(IO, "out"), lot))
        # a wish that single runs break has none
        self.assertIsNone(plan([same(IO, "in", "out")], none_rule(IO), lot))
        self.assertEqual(plan([same(IO, "in", "out")], none_rule(IO), []), [((), -1)])

    def test_questions_with_an_answer_without_depth_do_not_count(self):
        lot = read_lot(IO, "00 01 10")
        # the first question leaves 00 and 01 together, which nothing parts
        self.assertIsNone(plan([same(IO, "in")], same(IO, "out"), lot))
        self.assertEqual(plan([same(IO, "in"), same(IO, "out")], same(IO, "out"), lot),
                         [((0, 1, 2), 1), ((0, 2), -1), ((1,), -1)])

    def test_least_question_with_the_depth(self):
        lot = read_lot(IO, "00 01")
        wish = same(IO, "out")
        self.assertEqual(plan([same(IO, "in"), wish, same(IO, "in", "out")], wish, lot), [((0,), -1), ((0, 1), 1), ((1,), -1)])
        self.assertEqual(plan([same(IO, "in", "out"), wish], wish, lot), [((0,), -1), ((0, 1), 0), ((1,), -1)])

    def test_answers_that_overlap(self):
        lot = read_lot(S, "0 1 0.0 1.1")
        question = both(S, led(S, [], ["s"]))
        self.assertEqual(plan([question], led(S, [], ["s"]), lot), [((0, 1, 2, 3), 0), ((0, 2), -1), ((1, 3), -1)])
        pairs = machine_of(S, lot)
        overlapping = few(2, gives(each(pairs), same(S, "s") | led(S, [], ["s"])))
        self.assertEqual(plan([overlapping], same(S, "s") | led(S, [], ["s"]), lot), [((0, 1, 2, 3), 0), ((0, 2), -1), ((1, 3), -1)])

    def test_empty_lot(self):
        self.assertEqual(plan([], none_rule(S), []), [((), -1)])
        self.assertEqual(plan_depth([none_rule(S)], none_rule(S), ()), 0)
        self.assertTrue(is_plan([], none_rule(S), [], [((), -1)]))
        self.assertFalse(is_plan([all_rule(S)], none_rule(S), [], [((), 0)]))
        self.assertFalse(is_plan([], none_rule(S), [], []))

    def test_six_runs(self):
        lot = runs(S, 2)[:6]
        questions = [led(S, [], ["s"]), same(S), same(S, "s")]
        self.assertEqual(plan(questions, same(S, "s"), lot), plan_of(questions, same(S, "s"), lot))
        self.assertEqual(plan_depth(questions, same(S, "s"), lot * 2), 1)
        self.assertEqual(plan_depth(questions[:2], same(S, "s"), lot), 2)

    def test_arguments(self):
        lot, questions = LOT[::-1] + LOT, list(QUESTIONS)
        plan(questions, WISH, lot).clear()
        self.assertEqual(plan(lot=lot, wish=WISH, questions=questions), PLAN)
        self.assertEqual(plan_depth(lot=tuple(lot), wish=WISH, questions=tuple(questions)), 2)
        self.assertTrue(is_plan(pairs=tuple(PLAN), lot=lot, wish=WISH, questions=questions))
        self.assertEqual((lot, questions), (LOT[::-1] + LOT, QUESTIONS))


class IsPlanTest(Case):
    def test_any_order(self):
        source = random.Random(1)
        for _ in range(10):
            pairs = list(PLAN)
            source.shuffle(pairs)
            self.assertTrue(is_plan(QUESTIONS, WISH, LOT[::-1], pairs))

    def test_against_the_document(self):
        found = [0, 0]
        for seed in range(300):
            questions, wish, lot = drawn(seed)
            source = random.Random(seed)
            ordered = in_order(wish.letters, lot)
            pairs = plan(questions, wish, lot)
            if pairs is None:
                pairs = [(tuple(range(len(ordered))), -1)]
            for _ in range(6):
                changed = list(pairs)
                at = source.randrange(len(changed))
                word = source.randrange(5)
                if word == 0:
                    changed[at] = (changed[at][0], source.randint(-2, len(questions)))
                elif word == 1:
                    del changed[at]
                elif word == 2:
                    changed.insert(at, (tuple(source.choices(range(7), k=source.randint(0, 2))), source.randint(-1, 1)))
                elif word == 3:
                    changed[at] = (changed[at][0][::-1], changed[at][1])
                wanted = right(questions, wish, ordered, changed)
                found[wanted] += 1
                self.assertIs(is_plan(questions, wish, lot, changed), wanted, (seed, changed))
        self.assertGreater(min(found), 300)

    def test_wrong_plans(self):
        def wrong(pairs):
            self.assertIs(is_plan(QUESTIONS, WISH, LOT, pairs), False, pairs)

        wrong([])
        wrong(PLAN + PLAN[:1])
        wrong(PLAN + [((0,), 0)])
        for at in range(len(PLAN)):
            wrong(PLAN[:at] + PLAN[at + 1:])
        for part in ((3,), (-1,), (1, 0), (0, 0), (1, 2, 3)):
            wrong(PLAN + [(part, -1)])
            wrong(PLAN + [(part, 0)])
        # wrong questions: one that leaves the part as it is, no question, and a part that does not keep the wish
        wrong([pair if pair[0] != (0, 1) else ((0, 1), 0) for pair in PLAN])
        wrong([pair if pair[0] != (0, 1) else ((0, 1), 2) for pair in PLAN])
        wrong([pair if pair[0] != (0, 1) else ((0, 1), -2) for pair in PLAN])
        wrong([pair if pair[0] != (0, 1) else ((0, 1), -1) for pair in PLAN])
        wrong([((0, 1, 2), -1)])
        # a single run cannot be parted further
        wrong([pair if pair[0] != (2,) else ((2,), 0) for pair in PLAN])

    def test_other_right_plans(self):
        # a plan need not be the shortest one, nor have only parts that are reached, nor stop early
        other = [((0, 1, 2), 1), ((0, 2), 0), ((0,), -1), ((1,), -1), ((2,), -1)]
        self.assertTrue(is_plan(QUESTIONS, WISH, LOT, other))
        self.assertTrue(is_plan(QUESTIONS, WISH, LOT, other + [((0, 1), 1), ((), -1)]))
        self.assertFalse(is_plan(QUESTIONS, WISH, LOT, other + [((1, 2), -1)]))
        self.assertTrue(is_plan(QUESTIONS, all_rule(IO), LOT, PLAN))
        self.assertTrue(is_plan(QUESTIONS, all_rule(IO), LOT, [((0, 1, 2), -1)]))
        # the empty part keeps each wish, but no question makes it smaller
        self.assertTrue(is_plan(QUESTIONS, WISH, LOT, PLAN + [((), -1)]))
        self.assertFalse(is_plan(QUESTIONS, WISH, LOT, PLAN + [((), 0)]))


class ErrorsTest(Case):
    def test_in_order(self):
        seven = [("0",) * many for many in range(7)]
        six = seven[:6]
        odd, bad = all_rule(BACK), [("2",), ("x",)]
        four, five_told = (beside(read_lot(S, text), all_rule(S)) for text in ("- 0 1 1.1", "- 0 1 1.1 1.0"))
        for call, more in ((plan, ()), (plan_depth, ()), (is_plan, ([((0,), 9)],))):
            self.fails(BadRun, (7,), call, [odd, five_told], five_told, seven + bad, *more)
            self.fails(TooMany, ("runs", 7), call, [odd, five_told], five_told, seven * 2, *more)
            self.fails(UnlikeParts, ("s:01", "s:10"), call, [five_told, odd, all_rule(IO)], five_told, six, *more)
            self.fails(TooMany, ("runs", 11), call, [five_told & five_told], five_told, six, *more)
            self.fails(TooMany, ("runs", 11), call, [four, five_told, four & four], four, six, *more)
            self.fails(TooMany, ("runs", 14), call, [four & four, five_told], four, six, *more)
            self.fails(TooMany, ("runs", 11), call, [none_rule(S), five_told], all_rule(S), six, *more)
            self.fails(CantAnswer, (1, ("0",)), call, [same(S), each(machine_of(S, [()])), none_rule(S)], all_rule(S),
                       [("1",), ("0",), ()], *more)
            self.fails(CantAnswer, (0, ()), call, [none_rule(S)], all_rule(S), [("1",), ()], *more)
        self.assertEqual(plan([four], four, six), [(tuple(range(6)), -1)])
        # the wish need not be kept by single runs, and numbers mean nothing
        self.assertIsNone(plan([same(S)], none_rule(S), six))
        self.assertEqual(plan([five(S)], five(S), seven[:2] * 5), plan_of([five(S)], five(S), seven[:2]))


if __name__ == "__main__":
    unittest.main()
