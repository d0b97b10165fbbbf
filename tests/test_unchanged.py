import copy
import unittest

from lumpplans.cheapplans import cheapest_plan, fits_shapes, least_cost
from lumpplans.console import Console
from lumpplans.cuts import behind, counter, cuts, is_cut, judge_counter
from lumpplans.digits import crossing, depth, is_lump, least_lump, lump_at, path_of
from lumpplans.errors import BadAct, BadPlace, BadPlan, BadShape, BadTable, UnknownName
from lumpplans.exchanges import exchanges, turning, turns_into
from lumpplans.gluing import glued
from lumpplans.heights import deepest, height, height_paper, judge_height_paper
from lumpplans.house import House
from lumpplans.keeping import change_cost, kept_lumps, switch
from lumpplans.lasting import breaks_at, count_lasting, is_lasting, lasting, new_lasting
from lumpplans.ledger import Ledger
from lumpplans.lengths import are_telling, fewest_lengths, lacking, next_length, used_entries
from lumpplans.lumps import all_lumps
from lumpplans.papers import beginning_paper, judge_beginning_paper, judge_thing_paper, thing_paper
from lumpplans.parting import common_beginning, judge_parting, least_parting, parting
from lumpplans.partings import group_numbers, groups, nearest, parting_table
from lumpplans.plainforms import plain, prime_list
from lumpplans.plans import Plan
from lumpplans.pressing import row_behind, shape
from lumpplans.primes import primes
from lumpplans.readback import entries_told, fits_shape
from lumpplans.readings import Reading, misfit
from lumpplans.seencuts import judge_seen_counter, seen_counter, seen_cuts
from lumpplans.shapes import check_shape, is_shape, part_at
from lumpplans.sizes import lump_sizes
from lumpplans.stores import store
from lumpplans.tables import check_table, is_table
from lumpplans.words import is_number, is_word
from lumpplans.worths import (
    carried, carried_on, factors, is_rule, judge_bracket_paper, lump_worths, plan_worth, shape_worth, things_apart,
)
from tests.samples import P, Q, TWO, L, R, TWO_TWO

VALUES = (
    [1, [2], {"a": [3]}], {"a": [1], (0, 1): {}}, (P, [1, [2]]), ([()], {"b": ()}), ("lump", [4], {}),
    [TWO, [P], {0: 1}], (TWO, [P]), ["size"],
)


RULE = (2, 3, 1, 1000)
PLAN = Plan((TWO,), "left")
ROUND = Plan((), (TWO, L))


class UnchangedTest(unittest.TestCase):
    def check_unchanged(self, call, value):
        before = copy.deepcopy(value)
        for _ in range(2):
            call(value)
            self.assertEqual(value, before)

    def test_what_may_be_anything(self):
        for value in VALUES:
            for call in (is_word, is_number, is_shape, is_table):
                self.check_unchanged(call, value)
            self.check_unchanged(lambda path: part_at(Q, path), value)
            self.check_unchanged(lambda b: is_cut(TWO_TWO, b), value)
            self.check_unchanged(lambda told: judge_counter(TWO_TWO, 3, told), value)
            self.check_unchanged(lambda path: lump_at(PLAN, 7, path), value)
            for call in (is_lump, path_of):
                self.check_unchanged(lambda i: call(PLAN, 7, i, 7), value)
                self.check_unchanged(lambda j: call(PLAN, 7, 0, j), value)
            self.check_unchanged(lambda told: judge_parting(PLAN, ROUND, told), value)
            self.check_unchanged(lambda told: judge_height_paper(PLAN, told), value)
            self.check_unchanged(lambda i: is_lasting(PLAN, 7, i, 7), value)
            self.check_unchanged(lambda j: is_lasting(PLAN, 7, 0, j), value)
            self.check_unchanged(lambda told: judge_thing_paper(PLAN, 7, 3, told), value)
            self.check_unchanged(lambda told: judge_beginning_paper(PLAN, 3, 7, told), value)
            self.check_unchanged(is_rule, value)
            self.check_unchanged(lambda told: judge_bracket_paper(RULE, told), value)
            self.check_unchanged(lambda i: Ledger(RULE, PLAN).worth_of(i, 1), value)
            self.check_unchanged(lambda made: fits_shape([2, 3], "left", 3, made), value)
            self.check_unchanged(lambda told: judge_seen_counter([(), P, Q], 2, told), value)
            self.check_unchanged(House().act_word, value)
            self.check_unchanged(lambda name: House().act_word(("row", name, value)), value)

    def test_where_an_error_is_raised(self):
        for value in VALUES:
            for error, call in (
                    (BadShape, check_shape), (BadTable, check_table),
                    (BadPlan, lambda tables: Plan(tables, "left")), (BadPlan, lambda end: Plan((), end))):
                paths = []
                for _ in range(2):
                    before = copy.deepcopy(value)
                    with self.assertRaises(error) as caught:
                        call(value)
                    self.assertEqual(value, before)
                    paths.append(caught.exception.path)
                self.assertEqual(paths[0], paths[1])

    def test_values_that_are_no_places(self):
        for value in VALUES:
            for call in (
                    lambda i: depth(PLAN, 7, i), lambda i: least_lump(PLAN, 7, i, None),
                    lambda j: least_lump(PLAN, 7, 6, j), lambda i: thing_paper(PLAN, 7, i),
                    lambda i: judge_thing_paper(PLAN, 7, i, []), lambda i: Ledger(RULE, PLAN).change(i, 1),
                    lambda i: change_cost(PLAN, 7, i)):
                for _ in range(2):
                    before = copy.deepcopy(value)
                    with self.assertRaises(BadPlace) as caught:
                        call(value)
                    self.assertEqual(value, before)
                    self.assertIs(caught.exception.number, value)

    def test_lists_of_plans(self):
        plans = [PLAN, ROUND, Plan((TWO_TWO,), (L,)), PLAN]
        for call in (parting_table, group_numbers, lambda found: groups(found, 7), lambda found: nearest(PLAN, found)):
            before = list(plans)
            first = call(plans)
            self.assertEqual(plans, before)
            if isinstance(first, list):
                for member in first:
                    if isinstance(member, list):
                        member.clear()
                first.clear()
            self.assertEqual(call(plans), call(list(before)))

    def test_lists_of_primes(self):
        self.check_unchanged(lambda found: turns_into(TWO, found, TWO), [TWO, TWO])
        self.check_unchanged(lambda found: turns_into(TWO, found, L), [L])
        turning(TWO, TWO).append(L)
        self.assertEqual(turning(TWO, TWO), [])

    def test_lists_of_tables(self):
        self.check_unchanged(glued, [TWO, L, R])
        self.check_unchanged(lambda tables: Plan(tables, (L,)), [TWO, L, R])

    def test_papers(self):
        for paper in ([(2, 3), (0, 2), (4, 6), (6, 7)], [[2, 3], (0, 2)], []):
            self.check_unchanged(lambda found: judge_thing_paper(PLAN, 7, 3, found), paper)
            self.check_unchanged(lambda found: judge_beginning_paper(PLAN, 2, 7, found), paper)

    def test_lists_of_numbers(self):
        for things in ([5, 6, 7, 8, 9], [0, 0, 0, 0, 0]):
            self.check_unchanged(lambda found: lump_worths(RULE, PLAN, found), things)
            self.check_unchanged(lambda found: plan_worth(RULE, PLAN, found), things)
            self.check_unchanged(lambda found: shape_worth(RULE, shape(PLAN, 5), found), things)
            self.check_unchanged(lambda found: carried(RULE, PLAN, 7, 3, 1, found[:4]), things)
            self.check_unchanged(lambda found: carried_on(RULE, PLAN, 4, 7, found[:3]), things)
            self.check_unchanged(lambda found: Ledger(RULE, PLAN).add(found), things)
        sizes, lengths = [3, 5], [7, 13]
        for call in (lacking, are_telling, next_length):
            self.check_unchanged(lambda found: call(found, lengths), sizes)
            self.check_unchanged(lambda found: call(sizes, found), lengths)
        self.check_unchanged(fewest_lengths, sizes)
        self.check_unchanged(lambda found: used_entries(found, 7), sizes)

    def test_growing_rows(self):
        for end in ("left", "right", (TWO, R)):
            plan, again = Plan([TWO, L], end), Plan((TWO, L), end)
            for call in (
                    lasting, new_lasting, store, lambda one, n: thing_paper(one, n, 1),
                    lambda one, n: beginning_paper(one, n, n + 3), lambda one, n: lump_worths(RULE, one, [1] * n)):
                for n in (2, 7, 30):
                    call(plan, n).clear()
                    self.assertEqual(call(plan, n), call(again, n))
            self.assertEqual(count_lasting(plan, 30), count_lasting(again, 30))
            self.assertEqual(breaks_at(plan, 30, 0, 30), breaks_at(again, 30, 0, 30))
            factors(RULE, Q).clear()
            self.assertEqual(len(factors(RULE, Q)), 3)
            things_apart(RULE, L[1], R[1]).clear()
            self.assertEqual(len(things_apart(RULE, L[1], R[1])), 3)
            self.assertEqual(plan, again)

    def test_shapes_told_back(self):
        shapes = [shape(PLAN, n) for n in range(1, 9)]
        pairs = [(n, shape(PLAN, n)) for n in (3, 7, 4)]
        for call in (
                seen_cuts, cheapest_plan, least_cost, lambda found: seen_counter(found, 3),
                lambda found: fits_shapes(PLAN, found), lambda found: judge_seen_counter(found, 3, ("lump", 4, 0))):
            self.check_unchanged(call, shapes)
        self.check_unchanged(lambda found: entries_told([2, 3], "left", found), pairs)
        self.check_unchanged(lambda found: misfit([2, 3], "left", found, (3, Q)), pairs)
        self.check_unchanged(lambda found: entries_told(found, "left", []), [2, 3])
        self.check_unchanged(lambda found: misfit(found, "left", pairs, (3, Q)), [2, 3])
        self.check_unchanged(lambda found: Reading(found, "left").told().clear(), [2, 3])

    def test_houses_and_values_that_are_no_acts(self):
        house = House()
        house.do(("row", "a", PLAN))
        for value in VALUES:
            before = copy.deepcopy(value)
            for error, call in (
                    (BadAct, house.do), (UnknownName, house.size), (UnknownName, house.since),
                    (UnknownName, lambda name: house.keep("m", name))):
                for _ in range(2):
                    with self.assertRaises(error) as caught:
                        call(value)
                    self.assertEqual(value, before)
                    if error is BadAct:
                        self.assertEqual(caught.exception.word, "form")
                    else:
                        self.assertIs(caught.exception.name, value)
        self.assertEqual((house.done(), house.rows(), house.marks()), ([("row", "a", PLAN)], ["a"], []))

    def test_kept_lumps(self):
        for end in ("left", "right", (TWO, R)):
            plan, again = Plan([TWO, L], end), Plan((TWO, L), end)
            for n in (0, 1, 7, 60):
                kept_lumps(plan, n).clear()
                self.assertEqual(kept_lumps(plan, n), kept_lumps(again, n))
                self.assertEqual(switch(plan, PLAN, n), switch(again, PLAN, n))
            self.assertEqual(plan, again)

    def test_houses_made_anew_by_the_same_calls(self):
        lines = (
            "row a plan { left; }", "grow a 9", "keep m a", "undo", "grow a 2", "plan a plan { right; }", "undo", "redo",
            "change a 1", "store a", "cost a plan { left; }", "since m", "kept", "paid", "anew", "lost", "redo", "x")
        answers = []
        for _ in range(2):
            console = Console(House())
            answers.append([console.answer(line) for line in lines])
        self.assertEqual(answers[0], answers[1])

    def test_plans_never_change(self):
        for end in ("left", "right", (TWO, R)):
            plan = Plan([TWO, L], end)
            for n in (1, 2, 7, 30):
                all_lumps(plan, n).clear()
                row_behind(plan, n, 1).clear()
                self.assertEqual(shape(plan, n), shape(Plan((TWO, L), end), n))
                prime_list(plan, n).clear()
                exchanges(plan).clear()
                common_beginning(plan, PLAN).clear()
                lump_sizes(plan, n).clear()
                for call in (height, deepest):
                    self.assertEqual(call(plan, n), call(Plan((TWO, L), end), n))
                self.assertEqual(crossing(plan, 30, 1, 9), crossing(Plan((TWO, L), end), 30, 1, 9))
            for call in (plain, height_paper, lambda one: least_parting(one, PLAN), lambda one: parting(PLAN, one)):
                self.assertEqual(call(plan), call(Plan((TWO, L), end)))
            self.assertEqual(plan, Plan((TWO, L), end))

    def test_tables_made_anew(self):
        again = tuple([((), ()), (((), ()), ()), (((), ()), ((), ()))])
        self.assertEqual(cuts(again), cuts(TWO_TWO))
        self.assertEqual(primes(again), primes(TWO_TWO))
        self.assertEqual(behind(again, 2), behind(TWO_TWO, 2))
        self.assertEqual(counter(again, 3), counter(TWO_TWO, 3))


if __name__ == "__main__":
    unittest.main()
