"""The interface: all names, where they are defined, and their parameters."""

import importlib
import inspect
import unittest

from muffline.errors import MuffError

FUNCTIONS = {
    "terms": ("is_term(value)", "is_atom(term)", "is_ground(term)", "size(term)", "parts(term)", "parts_of_row(row)", "variables(term)", "key_of(term)",
              "is_less(first, second)", "in_order(row)"),
    "notation": ("write_term(term)", "read_term(text)", "read_role_term(text)", "read_recipe(text)"),
    "recipes": ("is_free(good, atom)", "cook(good, row, recipe)", "recipe_size(recipe)", "opened(good, row)", "can_build(good, terms, term)",
                "reachable(good, row, term)", "recipe_for(good, row, term)", "wall_for(good, row, term)", "wall_holds(good, row, term, wall)"),
    "patterns": ("apply_bindings(bindings, term)", "apply_to_row(bindings, row)", "match_term(pattern, term, bindings)", "unify(first, second)",
                 "unify_rows(first, second)", "chain_bindings(first, second)"),
    "roles": ("check_role(role)", "is_role_term(value, capitals)", "role_size(term)", "role_depth(term)", "place_term(term, capitals, hosts, session)"),
    "runs": ("replay(world, run)", "schedule_of(run)", "tidy(world, run)", "is_tidy(world, run)"),
    "claims": ("check_claim(world, claim)", "broken(world, claim, run)", "crowd(world, claim, run)", "leak(world, claim, run)"),
    "cases": ("start_case()", "is_settled(case)", "unfold(world, claim, case)", "next_demand(demands)"),
    "judge": ("judge(world, claim, *, limit=20000)", "check(world, claim, paper)", "instance_run(world, case)", "least_break(world, claim, *, limit=20000)"),
    "likeness": ("tells(good, first, second, test)", "tell_apart(good, first, second)", "runs_alike(first_world, first_run, second_world, second_run)"),
    "mends": ("edited(world, edits)", "mend(world, claim, edits, *, limit=20000)"),
    "joining": ("join_worlds(first, second)", "apart(world, many)", "project(world, many, run)"),
    "texts": ("write_world(world, claims)", "read_world(text)"),
}
CLASSES = {
    ("worlds", "World"): ("(roles, sessions, good)", "steps_of(session)", "role_of(session)", "total_steps()"),
    ("ward", "Ward"): ("(world, claims, limit=20000)", "verdict(number)", "add_role(role)", "drop_role(name)", "change_step(role, step, term)",
                       "add_step(role, at, step)", "drop_step(role, at)", "add_session(session)", "drop_session()", "set_good(good)", "add_claim(claim)",
                       "drop_claim(number)", "undo()", "__len__()"),
    ("tunnel", "Tunnel"): ("(window, first, second)", "send(payload)", "rekey()", "deliver(number)", "letter(number)", "key_term(epoch)", "sealed(number)",
                           "sealed_row()"),
    ("desk", "Desk"): ("(text)", "answer(line)"),
}
PROPERTIES = {("ward", "Ward"): ("world", "claims"), ("tunnel", "Tunnel"): ("received",)}
ERRORS = {"BadText": "(at)", "BadRole": "(step, role=-1)", "BadWorld": "()", "BadMove": "(at)", "BadClaim": "()", "TooLarge": "()", "BadRows": "()", "BadEdit": "()",
          "BadJoin": "()", "UnknownName": "()", "BadTunnel": "()", "BadLine": "(line)"}


class Interface(unittest.TestCase):
    def test_functions(self):
        for file, forms in FUNCTIONS.items():
            module = importlib.import_module("muffline." + file)
            for form in forms:
                name, rest = form.split("(", 1)
                function = getattr(module, name)
                self.assertTrue(inspect.isfunction(function))
                self.assertEqual(function.__module__, "muffline." + file)
                self.assertEqual(str(inspect.signature(function)), "(" + rest, form)

    def test_classes(self):
        for (file, name), forms in CLASSES.items():
            found = getattr(importlib.import_module("muffline." + file), name)
            self.assertEqual((found.__module__, found.__bases__), ("muffline." + file, (object,)))
            self.assertEqual(str(inspect.signature(found)), forms[0])
            for form in forms[1:]:
                method, rest = form.split("(", 1)
                self.assertIn(method, vars(found))
                self.assertEqual(str(inspect.signature(vars(found)[method])).replace("(self, ", "(").replace("(self)", "()"), "(" + rest)
        for (file, name), words in PROPERTIES.items():
            for word in words:
                self.assertIsInstance(vars(getattr(importlib.import_module("muffline." + file), name))[word], property)

    def test_errors(self):
        errors = importlib.import_module("muffline.errors")
        self.assertEqual(sorted([item.__name__ for item in MuffError.__subclasses__()]), sorted(ERRORS))
        for name, form in ERRORS.items():
            found = getattr(errors, name)
            if form == "()":
                self.assertIsInstance(found(), MuffError)
            else:
                self.assertEqual(str(inspect.signature(found)), form)


if __name__ == "__main__":
    unittest.main()
