"""The names of the interface: each in its file, with arguments by these names; and the errors."""

import importlib
import inspect
import unittest

INTERFACE = """
standings: is_standing(value), record_count(standing), block_of(standing, record), standing_of(b, blocks)
standings: is_wish(standing, value), crowds(standing, wish), is_met(standing, wish), wish_of(standing, other)
standings: renamed_blocks(standing, names), renamed_wish(wish, names), alike_records(standing, wish, one, other)
standings: exchanged(standing, one, other)
pours: is_pour(standing, m, value), poured(standing, m, value), behind(standing, m, row)
pours: meets(standing, wish, m, row), back(standing, m, row)
tokens: tokens_of(text), token_places(text)
errands: is_errand(value), renamed_errand(errand, names), relabelled_errand(errand, names), turned_errand(errand)
errands: joined_errand(errand, other)
errandtexts: errand_tokens(errand), errand_text(errand)
reading: read_errand(text), may_follow(text), completed(text)
diskcode: is_program(value), reads_in(program), moves_in(program)
diskmachine: first_state(standing, m), is_state(value), done_once(state, instruction), run(standing, m, program)
diskmachine: is_idle(state)
asrows: held_standing(state), row_of(standing, m, program), program_of(standing, m, row)
powers: power(x), psi(table)
depths: least_depths(x, m), depth_potential(table, m)
depthtrees: is_tree(m, value), end_count(tree), depth_sum(tree), best_tree(x, m), parted(tree, marks, many)
partings: is_best_parting(m, value), best_parting(x, m)
gains: poured_count(standing, pour), depth_gain(standing, wish, m, pour), psi_pair(standing, wish, m, pour)
gains: is_full(standing, wish, m, pour)
below: measured(standing, wish, m, measure), bound_by(standing, wish, m, measure), pours_needed(standing, wish, m)
belowpapers: paper_below(standing, wish, m), is_paper_below(standing, wish, m, value)
running: running(standing, wish, m, row), waste(standing, wish, m, row), is_surely_least(standing, wish, m, value)
readbounds: read_measure(state, wish), reads_needed(standing, wish, m), is_reads_paper(standing, wish, m, value)
turned: table_standing(b, rows, columns), turned_wish(b, rows, columns), turned_order(i, j)
digitlayings: laid_by(m, k, order), foreign_digits(k, order)
exchanges: exchange_row(m, k, order, inner, outer), renaming_row(standing, names, m)
digitrows: named_digit_row(m, k, order), digit_row(m, k, order), least_turning(m, i, j, k)
planes: even_planes(m, last, b, table)
enough: most_pours(many, m)
anywish: linked_lots(standing, wish), tightened(standing, m, row), row_for(standing, wish, m)
patterns: pattern(standing, wish), met_pattern(standing, wish), next_patterns(b, m, told)
leastpours: least_pours(standing, wish, m, most), least_row(standing, wish, m, most)
leastpours: pours_between(standing, other, m, most)
layers: is_layers(standing, wish, m, value), layers(standing, wish, m, most)
asks: stretches(asks), is_kept_lot(asks, m, value), kept_by(asks, row), rooms_of(asks, m, kept)
furthest: furthest(asks, m), fewest_misses(asks, m), hits_by_rooms(asks, most)
askpapers: ask_bound(asks, m, times), ask_paper(asks, m), is_ask_paper(asks, m, value)
dearpages: kept_worth(asks, costs, kept), price_bound(asks, costs, m, prices), price_paper(asks, costs, m)
dearpages: is_price_paper(asks, costs, m, value)
merging: is_plan(runs, fan, value), plan_cost(runs, plan), depths(runs, plan), least_plan(runs, fan)
merging: least_cost(runs, fan)
mergepapers: is_told_plan(runs, fan, value)
mergecounts: orders_of_runs(runs, b), answers_of_read(m, b), reads_below(runs, b, m)
searching: is_search(n, b, value), gap_visits(search, gap), key_visits(search, key), is_right(n, search)
searchtrees: is_search_tree(n, b, value), trimmed(n, search), least_height(n, b), least_visits(n, b)
searchtrees: level_tree(n, b), slow_gap(n, search)
searchweights: search_weight(search, keys, gaps), search_table(b, keys, gaps), lightest_tree(b, keys, gaps)
searchweights: search_bound(b, keys, gaps, value)
cuttings: cut_visits(parents, cut, node), cut_weight(parents, weights, cut), cut_table(b, parents, weights)
cuttings: lightest_cut(b, parents, weights), cut_bound(b, parents, weights, value), shallow_cut(b, parents)
layingvisits: way(h, end), is_laying(h, value), visits(h, laying, b, shift), visit_sum(h, laying, b)
partingtrees: least_worst(h, b), parting_tree(h, laying, b, shift), is_parting_tree(h, laying, b, shift, value)
halves: halves_laying(h), halves_runs(h, b), run_paper(h, laying, b, value)
manysizes: level_laying(h), tuned_laying(h, a), best_sizes(h, laying)
sorting: sort_reads_below(n, b, m), first_runs(n, m), sort_reads(n, m), sorted_run(words, b, m)
networks: run_network(network, words), unsorted_row(n, network), is_sorting(n, value)
blocknetworks: run_blocks(network, blocks), merging_network(n), least_network(n)
shadows: needs(point), shadows(points), most_by_shadows(total)
loopbounds: bound_by(sides, room, t), moves_at_least(sides, room)
walks: is_walk(sides, room, value), walk_moves(walk), tile_room(tile), tile_moves(sides, tile), tile_walk(sides, tile)
walks: best_tile(sides, room)
smallloops: fewest_in(sides, room), best_walk(sides, room)
living: is_life(value), begun(standing, wish, m, row), gap(life)
livingchanges: is_change(life, value), changed(life, change)
lives: joined(life), lived(life, changes), diary(life, changes)
counting: share_count(b, many, records), pour_most(b, many, records, m), within_most(b, many, records, m, t)
counting: far_at_least(b, many, records, m), rare_within(b, many, records, m, parts)
spread: spread(standing, m, most), farthest(standing, m, most)
rounds: rounds_of(row), settled(row), are_exchanges(one, other), put_together(row, m)
sheets: sheet_holds(value), sheet(name, question), wrong_sheets(values), sure(below, row)
"""
HOUSE = """__len__(), life(), errand(), bounds(), reads(), program(), do(change), shorten(), pour_on(many), undo(), within(work)"""
DESK = "load(text), say(command)"
WITH_AT = "InvalidStanding InvalidText InvalidRow InvalidPaper InvalidQuestion Refused".split()


class InterfaceTest(unittest.TestCase):
    def test_functions(self):
        count = 0
        for line in INTERFACE.strip().split("\n"):
            file, told = line.split(": ")
            module = importlib.import_module("fewestpours." + file)
            for call in told.replace("), ", ")|").split("|"):
                name, arguments = call[:-1].split("(")
                function = vars(module)[name]
                self.assertTrue(inspect.isfunction(function), call)
                self.assertEqual(function.__module__, module.__name__, call)
                self.assertEqual(", ".join(inspect.signature(function).parameters), arguments)
                count += 1
        self.assertEqual(count, 191)

    def test_classes(self):
        for file, word, arguments, methods in (("houses", "House", ["text"], HOUSE), ("desk", "Desk", [], DESK)):
            kind = vars(importlib.import_module("fewestpours." + file))[word]
            self.assertTrue(inspect.isclass(kind))
            self.assertEqual((kind.__module__, kind.__bases__), ("fewestpours." + file, (object,)))
            self.assertEqual(list(inspect.signature(kind).parameters), arguments)
            for call in methods.split(", "):
                name, told = call[:-1].split("(")
                # In the class itself, not only in a base class.
                self.assertTrue(inspect.isfunction(vars(kind)[name]), call)
                self.assertEqual(", ".join(list(inspect.signature(vars(kind)[name]).parameters)[1:]), told)
        self.assertEqual(vars(importlib.import_module("fewestpours.desk").Desk()), {"house": None})

    def test_measures(self):
        below = importlib.import_module("fewestpours.below")
        self.assertEqual(below.MEASURES, ("powers", "depths", "powers back", "depths back"))

    def test_errors(self):
        errors = importlib.import_module("fewestpours.errors")
        self.assertEqual(errors.PourError.__bases__, (ValueError,))
        for name in WITH_AT + ["InvalidCommand"]:
            self.assertEqual(vars(errors)[name].__bases__, (errors.PourError,))
        for name in WITH_AT:
            for at in (0, 5, None, "word", (1, 2), [3], 10 ** 5000):
                kept = vars(errors)[name](at)
                self.assertIs(kept.at, at)
                self.assertIs(vars(errors)[name](at=at).at, at)
                self.assertFalse(kept == at)
                self.assertIsInstance(str(kept), str)
        self.assertIsInstance(errors.InvalidCommand(), errors.PourError)


if __name__ == "__main__":
    unittest.main()
