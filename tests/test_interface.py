"""The names, arguments and places of definition that the interface lists."""

import importlib
import inspect
import pathlib
import unittest

from hoproads import errors

INTERFACE = {
    "roads": ["is_row(value)", "are_rates(value)", "hops_of(row)", "hopped(row, hop)", "hop_back(row, hop)",
              "hop_rate(rates, hop)", "rate_away(row, rates)"],
    "shares": ["are_shares(places, value)", "are_steady(rates, places, shares)",
               "unsteady_rows(rates, places, shares)"],
    "weights": ["is_weight(value)", "weight_sum(weight, other)", "weight_product(weight, other)",
                "weight_value(rates, weight)", "row_weight(row)", "whole_weight(places)"],
    "steady": ["share_of(rates, row)", "steady_shares(rates, places)", "share_with(rates, places, place)",
               "flow(rates, places)"],
    "stairs": ["cells_of(row)", "mirrored_row(row)", "is_table(row, value)", "open_cells(row, table)",
               "lost_cells(row, table)", "struck_cars(row, table)", "struck_gaps(row, table)",
               "table_weight(row, table)", "mirrored_table(row, table)"],
    "stairlists": ["tables_of(row)", "count_tables(row)", "all_tables(places)", "count_all_tables(places)",
                   "table_number(row, table)", "table_with(places, number)"],
    "words": ["is_word(value)", "ordered(word)", "changes_of(word)", "changed(word, place)", "word_row(word)",
              "row_word(row)", "word_weight(word)", "mirrored_word(word)"],
    "wordsums": ["is_ordered_sum(value)", "sum_added(one, two)", "sum_times(one, two)", "power_of_both(letters)",
                 "sum_weight(one)", "sum_mirrored(one)", "sum_at(one, number)"],
    "wordblocks": ["block_sum(cars, gaps)", "block_straight(cars, gaps)", "count_block(cars, gaps)"],
    "wordtrees": ["is_word_tree(word, value)", "word_tree(word)", "count_word_trees(word)", "tree_ends(word, tree)",
                  "tree_depth(word, tree)", "least_depth(word)"],
    "wordgrids": ["letter_grid(letter, size)", "word_grid(word, size)", "grid_weight(word)"],
    "orders": ["is_order(value)", "row_by_crossings(order)", "crossings_of(order)", "tops_of(order)",
               "lows_of(order)", "crossing_weight(order)"],
    "orderfalls": ["row_by_falls(order)", "patterns_of(order)", "late_lows(order)", "late_tops(order)",
                   "pattern_weight(order)"],
    "tablewalks": ["turning_cells(row, table)", "walk_from(row, table, step)", "order_by_walks(row, table)",
                   "table_by_walks(order)", "mirrored_order(order)"],
    "melting": ["melted_once(order, place)", "melted(order)", "melted_back(row, table)", "count_exchanges(order)",
                "early_tops(order)", "dips_of(order)", "melting_weight(order)", "order_alike(order)"],
    "orderlists": ["orders_crossing(row)", "orders_falling(row)", "joint_crossings(places)", "joint_patterns(places)",
                   "joint_ends(places)"],
    "trails": ["is_trail(value)", "trail_heights(trail)", "trails_of(steps)", "count_trails(steps)",
               "trail_number(trail)", "trail_with(steps, number)"],
    "trailweights": ["level_weight(rates, height)", "fall_weight(rates, height)", "trail_weight(rates, trail)",
                     "moment(rates, steps)", "weight_between(rates, low, high, steps)", "far_flow(rates, places)"],
    "trailbasis": ["step_polynomial(rates, degree)", "polynomial_mean(rates, polynomial)",
                   "polynomial_product(one_row, other_row)"],
    "traildeterminants": ["moment_table(rates, size, shift)", "determinant(table_so)", "steps_told(value)"],
    "trailfractions": ["cut_fraction(rates, depth)", "quotient_row(top, below, many)"],
    "histories": ["is_history(value)", "histories_of(steps)", "count_histories(steps)", "history_weight(history)",
                  "histories_weight(steps)"],
    "tablehops": ["is_board(value)", "is_plain_hop(board, hop)", "board_hopped(board, hop)", "board_left(board, hop)",
                  "hops_to(board)", "board_mirrored(board)", "hop_mirrored(places, hop)"],
    "tablerounds": ["round_of(small)", "round_hops(small)", "rounds_with(board)", "led_round(board, hop, times)",
                    "count_rounds(places)"],
    "tableflows": ["leads_away(rates, board)", "leads_to(rates, board)", "board_share(rates, board)",
                   "board_shares(rates, places)", "are_boards_steady(rates, places, shares)"],
    "tableways": ["boards_along(board, hops)", "back_along(board, hops)", "hops_between(board, other)"],
    "lines": ["is_line(value)", "line_row(line)", "line_weight(line)", "lines_of(row)", "count_lines(row)",
              "count_touching(row, zeros, last)", "all_lines(places)", "count_all_lines(places)", "line_number(line)",
              "line_with(places, number)"],
    "linemoves": ["line_opened(line, slot)", "line_closed(line, hop)", "slot_ring(line)", "line_hops(line)",
                  "line_hopped(line, hop)", "lines_before(line)"],
    "lineforms": ["spent_of(line)", "line_of_spent(row, value)", "is_spent(row, value)", "brackets_of(line)",
                  "line_of_brackets(value)"],
    "oneway": ["count_ends(places, zeros, last)", "oneway_whole(ends, far_places)", "oneway_flow(ends, far_places)",
               "endless_flow(ends)", "oneway_share(ends, row)", "oneway_car(ends, far_places, place)"],
    "wheels": ["is_wheel(value)", "sort_counts(wheel)", "wheel_hops(wheel)", "wheel_hopped(wheel, place)",
               "wheel_sources(wheel)", "wheel_turned(wheel, steps)", "wheel_mirrored(wheel)",
               "sorts_joined(wheel, sort)", "wheels_with(counts)", "count_wheels(counts)"],
    "queuelines": ["are_queue_lines(value)", "wheel_of(lines)", "served(wheel, line)", "queue_lines_rung(lines, place)",
                   "bells_to(lines)", "count_queue_lines(counts)", "queue_lines_for(wheel)",
                   "count_queue_lines_for(wheel)"],
    "ringshares": ["share_of_wheel(wheel)", "steady_wheels(counts)", "are_steady_wheels(counts, shares)",
                   "pair_share(counts, one, other)", "sort_flow(counts, sort)"],
    "waits": ["are_waits(value)", "times_of(waits)", "begins_of(waits)", "last_time(waits)", "are_times(value)",
              "waits_of(times)", "passings(waits)", "hops_by(waits, time)", "road_at(waits, time)",
              "line_at(waits, gate, time)", "hop_words(waits)"],
    "longways": ["longest_way(waits)", "is_longest(waits, value)", "slacks_of(waits)", "sure_pairs(waits)",
                 "ways_sum(waits, many)"],
    "gatechanges": ["gates_exchanged(waits, gate)", "cars_exchanged(waits, car)", "gates_led(waits, order)",
                    "cars_led(waits, order)", "totals_of(waits)"],
    "rowfacts": ["are_facts(places, value)", "keeps_facts(row, facts)", "rows_keeping(places, facts)",
                 "count_keeping(places, facts)", "places_left(places, facts)"],
    "factshares": ["share_keeping(rates, places, facts)", "share_given(rates, places, facts, given)",
                   "likeliest(rates, places, facts)", "mean_cars(rates, places, facts)"],
    "ratestold": ["rates_told(places, shares)", "alike_rates(places, one, other)", "rates_by_flows(free, one, two)"],
    "lookpapers": ["fewest_looks(places, facts)", "least_mean(rates, places, facts)",
                   "look_paper(rates, places, facts)", "is_look_paper(places, facts, value)",
                   "paper_mean(rates, places, facts, paper)"],
    "lifesteps": ["is_state(value)", "is_step(value)", "is_script(value)", "seen_thing(state)", "stepped(state, step)",
                  "all_stepped(state, script)", "step_back(state, step)", "script_to(one, other)",
                  "script_home(state, script)", "steps_that_can(state, steps)", "way_rate(state, script)",
                  "state_share(state)"],
    "lifetexts": ["state_text(state)", "script_text(script)", "read_state(value)", "read_script(value)"],
}

# what stands in the body of each class itself: methods with their arguments, properties, class values
CLASSES = {
    "lifevalues": ("Road", ["__init__(self, row, rates)", "__rshift__(self, other)", "__lshift__(self, other)",
                            "__invert__(self)", "__add__(self, other)", "__iadd__(self, other)",
                            "__sub__(self, other)", "__xor__(self, other)", "__le__(self, other)",
                            "__call__(self, hop)", "__getitem__(self, at)", "__contains__(self, x)",
                            "__len__(self)", "__bool__(self)", "__str__(self)", "__iter__(self)",
                            "__eq__(self, other)"],
                   ["row", "rates", "cars", "away"], {"MOST": 12}),
    "lifebenches": ("Bench", ["__init__(self, state)", "do(self, step)", "__iadd__(self, other)", "undo(self)",
                              "redo(self)", "attempt(self, action)", "lines(self)", "__getitem__(self, at)",
                              "__contains__(self, x)", "__len__(self)", "__bool__(self)", "__iter__(self)",
                              "__eq__(self, other)"],
                    ["state", "row", "marks", "place", "rates", "seen", "away", "log"], {"MOST": 60}),
}

WITH_MESSAGE = """
    InvalidRow InvalidRates InvalidPlaces InvalidPlace InvalidHop InvalidShares InvalidWeight InvalidTable
    InvalidNumber InvalidWord InvalidSum InvalidWordTree InvalidOrder InvalidSteps InvalidTrail InvalidHeight
    InvalidPolynomial InvalidMoments InvalidHistory InvalidBoard InvalidHops InvalidLine InvalidSlot InvalidSpent
    InvalidBrackets InvalidEnds InvalidWheel InvalidCounts InvalidQueueLines InvalidQueueLine InvalidSort TooFew
    InvalidWaits InvalidTimes InvalidGate InvalidCar InvalidTime InvalidSequence InvalidFacts InvalidFlows
    InvalidPaper InvalidState InvalidStep InvalidScript InvalidText Stuck NothingToUndo NothingToRedo Unlike
""".split()


class Interface(unittest.TestCase):
    def test_functions_are_defined_in_their_files_with_their_arguments(self):
        for module, functions in INTERFACE.items():
            loaded = importlib.import_module(f"hoproads.{module}")
            for told in functions:
                with self.subTest(module=module, told=told):
                    function = getattr(loaded, told.partition("(")[0])
                    self.assertTrue(inspect.isfunction(function))
                    self.assertEqual(function.__module__, f"hoproads.{module}")
                    self.assertEqual(function.__name__ + str(inspect.signature(function)), told)


    def test_no_other_file_defines_a_function_of_the_same_name(self):
        own = {told.partition("(")[0]: module for module, functions in INTERFACE.items() for told in functions}
        self.assertEqual(len(own), sum(len(functions) for functions in INTERFACE.values()))
        for path in (pathlib.Path(__file__).resolve().parent.parent / "hoproads").glob("*.py"):
            loaded = importlib.import_module(f"hoproads.{path.stem}" if path.stem != "__init__" else "hoproads")
            for name, value in vars(loaded).items():
                if name in own and inspect.isfunction(value):
                    self.assertEqual(value.__module__, f"hoproads.{own[name]}", (path.stem, name))


class Classes(unittest.TestCase):
    def test_all_stands_in_the_class_itself(self):
        for module, (name, methods, properties, values) in CLASSES.items():
            some = getattr(importlib.import_module(f"hoproads.{module}"), name)
            self.assertEqual((some.__name__, some.__module__, some.__bases__), (name, f"hoproads.{module}", (object,)))
            for told in methods:
                method = vars(some)[told.partition("(")[0]]
                self.assertTrue(inspect.isfunction(method), told)
                self.assertEqual(method.__name__ + str(inspect.signature(method)), told)
            for told in properties:
                self.assertIsInstance(vars(some)[told], property)
                self.assertIsNone(vars(some)[told].fset)
            self.assertEqual({told: vars(some)[told] for told in values}, values)

    def test_a_class_method_and_a_generator(self):
        road = importlib.import_module("hoproads.lifevalues").Road
        self.assertIsInstance(vars(road)["read"], classmethod)
        self.assertEqual(str(inspect.signature(road.read)), "(value)")
        bench = importlib.import_module("hoproads.lifebenches").Bench
        self.assertTrue(inspect.isgeneratorfunction(vars(bench)["lines"]))

    def test_an_object_cannot_be_a_key(self):
        road = importlib.import_module("hoproads.lifevalues").Road
        with self.assertRaises(TypeError):
            hash(road((1, 0), ((1, 1), (1, 1), (0, 1))))


class Errors(unittest.TestCase):
    def test_all_listed_errors_are_direct_subclasses_of_the_base_class(self):
        self.assertEqual(errors.HopError.__bases__, (ValueError,))
        for name in WITH_MESSAGE + ["TooMany"]:
            with self.subTest(name=name):
                some = getattr(errors, name)
                self.assertEqual(some.__bases__, (errors.HopError,))
                self.assertEqual(some.__module__, "hoproads.errors")
                self.assertEqual(some.__name__, name)

    def test_there_are_no_further_errors(self):
        listed = {name for name, value in vars(errors).items() if isinstance(value, type)}
        self.assertEqual(listed, set(WITH_MESSAGE) | {"HopError", "TooMany"})
        self.assertEqual(len(WITH_MESSAGE), 49)

    def test_each_takes_a_message(self):
        for name in WITH_MESSAGE + ["HopError"]:
            with self.subTest(name=name):
                error = getattr(errors, name)("some message")
                self.assertEqual(str(error), "some message")
                self.assertEqual(error.args, ("some message",))

    def test_too_many_takes_its_limit(self):
        for limit in (6, 0, 10000, 10 ** 30):
            self.assertEqual(errors.TooMany(limit).limit, limit)
            self.assertTrue(errors.TooMany(limit).args)
        with self.assertRaises(TypeError):
            errors.TooMany()

    def test_each_can_be_raised_and_caught_by_the_base_class(self):
        for name in WITH_MESSAGE:
            with self.assertRaises(errors.HopError):
                raise getattr(errors, name)("some message")
        with self.assertRaises(ValueError):
            raise errors.TooMany(3)


if __name__ == "__main__":
    unittest.main()
