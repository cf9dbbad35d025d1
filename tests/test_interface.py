"""Promise 22: what is listed stands in the file under which it is listed, with the names of its arguments."""

import ast
import importlib
import inspect
import pathlib
import unittest

FOLDER = pathlib.Path(__file__).resolve().parent.parent / "allbutts"
LISTED = {
    "years": """
        is_run(thing) is_runs(thing) swings_of(runs) ring(year) begun_at(year, place) backwards(year) opposite(year)
        repeated(year, number) scaled(year, number)""",
    "texts": """
        runs_text(runs) swings_text(swings) heap_text(heap) runs_from(text) swings_from(text) heap_from(text)
        lines_of(one, other)""",
    "walks": """
        is_level(butt, thing) walked(year, butt, first) levels(year, butt, first) level_after(year, butt, first)
        bought_in(year, butt, first) spilled_in(year, butt, first) walk_lines(year, butt, first)""",
    "parts": """
        then(one, other) part_of(runs, butt) times(part, number) is_part(butt, thing) through(part, level)
        runs_for(butt, part) least_first(year, butt) most_first(year, butt) level_on(year, butt, first, number)
        bought_by(year, butt, first, number) spilled_by(year, butt, first, number)""",
    "strikes": """
        is_ring(thing) can_strike(ring, place) struck(ring, place) swings(year) first_strikes(year) strikes(year)
        left_by(year, strikes) swings_by(year, strikes) is_strikes(year, thing) how_many_strikes(year)""",
    "heaps": """
        is_swings(thing) is_heap(thing) bought_by_heap(heap, butt) first_sums(heap, many) heap_against(one, other)
        heap_within(one, other) heap_compare(one, other) most_over(one, other) butt_for(heap, most)
        heap_sum(one, other) below_both(one, other) above_both(one, other) bought_table(heap, most) is_table(thing)
        heap_of(table)""",
    "longrun": """
        bought(year, butt) spilled(year, butt) corners(year) least_butt(year, most) enough(year)
        saved_by(year, butt, more) rests(year, butt) settles(year, butt, first)""",
    "lead": """
        never_more(one, other) spans_against(one, other) against(one, other) is_against(one, other, thing)
        never_more_between(one, other, least, most) most_more(one, other) most_more_butt(one, other) alike(one, other)
        compare(one, other) never_spills_more(one, other) most_spilled_more(one, other)""",
    "steps": """
        is_step(heap, thing) taken(heap, row) steps(one, other) is_steps(one, other, thing) gone_by(row)
        lowers(step)""",
    "made": """
        fewest_runs(wants, spare, swings) made(wants, spare, swings) is_made(wants, spare, swings, year)
        how_many_made(wants, spare, swings) all_made(wants, spare, swings)""",
    "common": """
        is_days(thing) year_of(days) bought_on(days, butt) common(one, other) common_heap(one, other)
        apart_heap(one, other) gain(one, other, butt, further) least_apart(one, other, butt)
        best_parting(one, other, butt) most_gain(one, other) most_gain_butt(one, other) never_gains(one, other)""",
    "second": """
        is_butts(thing) levels_behind(year, butts, firsts) taken_from(year, butts) run_over(year, butts)
        idle_butts(year, butts) saves(year, butt, further) least_second(year, butt, number) saves_against(one, other)
        never_saves_more(one, other) is_saves_against(one, other, thing)""",
    "changes": """
        put_in(year, place, run) left_out(year, place) passed(year, place) parted(year, place, first)
        best_place(year, run, butt) best_for_all(year, run) worst_for_all(year, run) passes(year, butt)""",
    "most": """
        is_order(runs, thing) worst_order(runs) most_bought(runs, butt) best_order(runs, butt)
        least_bought(runs, butt) is_best(runs, butt, thing) all_swings(runs) best_for_all(runs)
        how_many_orders(runs, swings)""",
    "survey": "surveyed(most, high, asker)",
    "desk": "answers(text)",
}
# For each class its file, what it is made with, its properties, its methods, and those with signs of their own.
CLASSES = {
    "Year": ("years", "runs", "runs rain draws wants spare swings heap text", "of(text)", "len eq add"),
    "Watch": (
        "changes", "one, other", "one other leads",
        "put(side, place, run) drop(side, place) exchange(side, place) back() twin()", "len eq",
    ),
    "Table": (
        "ranks", "rows", "names", """
        excess_of(name, other) is_never_more(name, other) all_excesses() on_way(name, other) below(name) above(name)
        next_below(name) next_above(name) ties() chain() apart() layers() bound_above(names) bound_below(names)
        within(heap)""", "len contains getitem eq",
    ),
    "Survey": ("survey", "most, high", "most high ask answers heap", "tell(number) back() fits(heap) numbers(butt)", "len"),
    "Board": (
        "board", "", "names deeds", """
        put(name, year) drop(name) rename(name, new) add(name, place, run) remove(name, place) move(name, place, to)
        undo() twin() bought_by(butt) spilled_by(butt) least_bought(butt) least_butts(most) never_more(name, to)""",
        "len contains getitem eq",
    ),
}


def calls_in(text):
    """For each call in the text the names of its arguments."""
    found = {}
    for call in text.replace(", ", ",").split():
        name, _, rest = call.partition("(")
        found[name] = [word for word in rest.rstrip(")").split(",") if word]
    return found


def body_of(module):
    return ast.parse((FOLDER / f"{module}.py").read_text(encoding="utf-8")).body


class InterfaceTest(unittest.TestCase):
    def assert_names(self, function, names):
        """It takes just these arguments, each by position or by name."""
        told = list(inspect.signature(function).parameters.values())
        self.assertEqual([parameter.name for parameter in told], names, function)
        for parameter in told:
            self.assertIs(parameter.kind, inspect.Parameter.POSITIONAL_OR_KEYWORD)
            self.assertIs(parameter.default, inspect.Parameter.empty)

    def test_functions_stand_in_their_files(self):
        for module, text in LISTED.items():
            defined = {node.name for node in body_of(module) if isinstance(node, ast.FunctionDef)}
            self.assertLessEqual(set(calls_in(text)), defined, module)

    def test_arguments_have_their_names(self):
        for module, text in LISTED.items():
            for name, names in calls_in(text).items():
                self.assert_names(getattr(importlib.import_module(f"allbutts.{module}"), name), names)

    def test_classes_stand_in_their_files(self):
        for name, (module, made_with, properties, methods, signs) in CLASSES.items():
            found = [node for node in body_of(module) if isinstance(node, ast.ClassDef) and node.name == name]
            self.assertEqual(len(found), 1, name)
            defined = {node.name for node in found[0].body if isinstance(node, ast.FunctionDef)}
            self.assertLessEqual({f"__{sign}__" for sign in signs.split()}, defined, name)
            self.assertLessEqual({*calls_in(methods), *properties.split(), "__init__"}, defined, name)

    def test_methods_and_properties(self):
        for name, (module, made_with, properties, methods, _) in CLASSES.items():
            kind = getattr(importlib.import_module(f"allbutts.{module}"), name)
            self.assert_names(kind, made_with.split(", ") if made_with else [])
            for word in properties.split():
                self.assertIsInstance(vars(kind)[word], property)
                self.assertIsNone(vars(kind)[word].fset)
            for word, names in calls_in(methods).items():
                alone = isinstance(vars(kind)[word], staticmethod)
                self.assert_names(getattr(kind, word), names if alone else ["self"] + names)

    def test_none_is_missing(self):
        modules = {path.stem for path in FOLDER.glob("*.py")}
        named = set(LISTED) | {row[0] for row in CLASSES.values()} | {"errors"}
        self.assertEqual(modules - named, {"__init__", "pieces"})
        self.assertEqual(len(named), 19)


if __name__ == "__main__":
    unittest.main()
