"""The interface: each name stands in its file, with its arguments."""

import importlib
import inspect
import unittest

FUNCTIONS = {
    "baths": ["done(bath, recipe)", "steps(bath, recipe)", "first_time(bath, recipe, cell, sign)",
              "ever(bath, recipe, sign)"],
    "origins": ["sources(width, height, recipe)", "copies(width, height, recipe)", "lost(width, height, recipe)",
                "alike(width, height, one, other)", "parting_bath(width, height, one, other)",
                "told(width, height, recipe, papers)"],
    "undoing": ["opposite(bath, deed)", "shortened(bath, recipe)", "undoing(bath, recipe)"],
    "fewest": ["draw_count(bath)", "can_become(bath, cells)", "fewest_draws(bath, cells)",
               "fewest_drops(bath, cells, most)", "first_drops(bath, cells, most)", "recipes_of_drops(bath, count)"],
    "lasting": ["last_drops(bath)", "ahead_count(bath, cell, colours)", "first_ahead(bath, cell, colours)"],
    "again": ["after_times(bath, recipe, count)", "period(bath, recipe)"],
    "carrying": ["carried(one, other, cells)", "least_carried(one, other, cells)", "paper_count(bath, text)",
                 "first_paper(bath, text)", "moments(bath, recipe, cells, text)"],
    "guesses": ["orders_to(bath, recipe, cells)", "first_order(bath, recipe, cells)", "rake_count(bath, cells, text)",
                "first_rake(bath, cells, text)", "sure_strides(bath, cells, text)",
                "seen_times(bath, strides, cell, sign, count)", "nth_seen(bath, strides, cell, sign, number)"],
    "notation": ["drawing(bath)", "recipe_text(recipe)", "read_recipe(bath, text)",
                 "source_map(width, height, recipe)"],
    "codec": ["encode_bath(bath)", "decode_bath(values)"],
    "scripts": ["run_script(bath, text)"],
}

CLASSES = {
    "baths": {"Bath(width, height, cells)": ["__len__()", "__eq__(other)"]},
    "tables": {
        "Table(bath)": ["drop(cell, colour)", "rake(strides)", "comb(strides)", "paper(cells)", "keep_as(name)",
                        "fetch(name)", "undo()", "redo()", "apply_all(operations)", "tried_out(operations, keep)"],
        "Trial(table)": ["hold()", "__enter__()"],
    },
    "peeking": {
        "Peeker(width, height, recipe)": ["seen(cell, sign)", "fewest_looks()", "sure_cells()", "useful()"],
    },
}

PROPERTIES = [
    ("baths", "Bath", "width height cells"),
    ("tables", "Table", "bath_now papers_made colours_now kept_under history"),
    ("peeking", "Peeker", "known told_so_far"),
]


def written(thing, name, left_out=0):
    """Return a name and its arguments, as the interface writes them."""
    arguments = list(inspect.signature(thing).parameters)[left_out:]
    return f"{name}({', '.join(arguments)})"


def module(name):
    return importlib.import_module("rakedpapers." + name)


class Interface(unittest.TestCase):
    def test_functions(self):
        for file, functions in FUNCTIONS.items():
            for text in functions:
                with self.subTest(text):
                    function = getattr(module(file), text.split("(")[0])
                    self.assertEqual(written(function, function.__name__), text)
                    self.assertEqual(function.__module__, "rakedpapers." + file)

    def test_classes(self):
        for file, classes in CLASSES.items():
            for text, methods in classes.items():
                found = getattr(module(file), text.split("(")[0])
                self.assertEqual(written(found, found.__name__), text)
                self.assertEqual(found.__module__, "rakedpapers." + file)
                for method in methods:
                    with self.subTest(method):
                        self.assertEqual(written(vars(found)[method.split("(")[0]], method.split("(")[0], 1), method)

    def test_properties(self):
        for file, name, properties in PROPERTIES:
            for one in properties.split():
                self.assertIsInstance(vars(getattr(module(file), name))[one], property)

    def test_the_class_method(self):
        table = module("tables").Table
        self.assertIsInstance(vars(table)["replay"], classmethod)
        self.assertEqual(written(table.replay, "replay"), "replay(bath, operations)")
