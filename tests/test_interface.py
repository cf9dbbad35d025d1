"""Promise 22: what is listed stands in the file under which it is listed, with the names of its arguments."""

import ast
import importlib
import inspect
import pathlib
import unittest

FOLDER = pathlib.Path(__file__).resolve().parent.parent / "allbutts"
LISTED = {
    "years": """
        is_run(thing) is_runs(thing) swings_of(runs) ring(year) begun_at(year, place) backwards(year) opposite(year)
        repeated(year, number) scaled(year, number)""",
    "texts": """
        runs_text(runs) swings_text(swings) heap_text(heap) runs_from(text) swings_from(text) heap_from(text)
        lines_of(one, other)""",
    "walks": """
        is_level(butt, thing) walked(year, butt, first) levels(year, butt, first) level_after(year, butt, first)
        bought_in(year, butt, first) spilled_in(year, butt, first) walk_lines(year, butt, first)""",
    "parts": """
        then(one, other) part_of(runs, butt) times(part, number) is_part(butt, thing) through(part, level)
        runs_for(butt, part) least_first(year, butt) most_first(year, butt) level_on(year, butt, first, number)
        bought_by(year, butt, first, number) spilled_by(year, butt, first, number)""",
    "strikes": """
        is_ring(thing) can_strike(ring, place) struck(ring, place) swings(year) first_strikes(year) strikes(year)
        left_by(year, strikes) swings_by(year, strikes) is_strikes(year, thing) how_many_strikes(year)""",
    "heaps": """
        is_swings(thing) is_heap(thing) bought_by_heap(heap, butt) first_sums(heap, many) heap_against(one, other)
        heap_within(one, other) heap_compare(one, other) most_over(one, other) butt_for(heap, most)
        heap_sum(one, other) below_both(one, other) above_both(one, other) bought_table(heap, most) is_table(thing)
        heap_of(table)""",
    "longrun": """
        bought(year, butt) spilled(year, butt) corners(year) least_butt(year, most) enough(year)
        saved_by(year, butt, more) rests(year, butt) settles(year, butt, first)""",
    "lead": """
        never_more(one, other) spans_against(one, other) against(one, other) is_against(one, other, thing)
        never_more_between(one, other, least, most) most_more(one, other) most_more_butt(one, other) alike(one, other)
        compare(one, other) never_spills_more(one, other) most_spilled_more(one, other)""",
    "steps": """
        is_step(heap, thing) taken(heap, row) steps(one, other) is_steps(one, other, thing) gone_by(row)
        lowers(step)""",
    "made": """
        fewest_runs(wants, spare, swings) made(wants, spare, swings) is_made(wants, spare, swings, year)
        how_many_made(wants, spare, swings) all_made(wants, spare, swings)""",
}


def listed(module):
    """For each function that is listed for a module the names of its arguments."""
    found = {}
    for call in LISTED[module].replace(", ", ",").split():
        name, _, rest = call.partition("(")
        found[name] = rest.rstrip(")").split(",")
    return found


class InterfaceTest(unittest.TestCase):
    def test_functions_stand_in_their_files(self):
        for module in LISTED:
            body = ast.parse((FOLDER / f"{module}.py").read_text(encoding="utf-8")).body
            defined = {node.name for node in body if isinstance(node, ast.FunctionDef)}
            self.assertLessEqual(set(listed(module)), defined, module)

    def test_arguments_have_their_names(self):
        for module in LISTED:
            for name, names in listed(module).items():
                function = getattr(importlib.import_module(f"allbutts.{module}"), name)
                told = inspect.signature(function).parameters.values()
                self.assertEqual([parameter.name for parameter in told], names, (module, name))
                for parameter in told:
                    self.assertIs(parameter.kind, inspect.Parameter.POSITIONAL_OR_KEYWORD)
                    self.assertIs(parameter.default, inspect.Parameter.empty)


if __name__ == "__main__":
    unittest.main()
