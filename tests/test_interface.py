"""The interface of DOC.md: everything that is listed exists under its name, in its file, with its arguments."""

import importlib
import inspect
import unittest

FUNCTIONS = {
    "tables": ("is_table(thing)", "is_list(columns, thing)", "sorted_by(table, one)"),
    "questions": ("is_question(columns, thing)", "answer(table, question)"),
    "stretches": ("used(one, question)", "stretch(table, one, question)", "read(table, one, question)",
                  "serves(one, question)"),
    "prices": ("price_by(table, one, question)", "price_of(table, choice, question)", "price(work, choice)",
               "room(choice)", "cut(work, choice)"),
    "cheapest": ("cheapest(work, room)", "shows(work, room, number, thing)"),
    "stairs": ("stairs(work, room)", "by_and_by(work, many)"),
    "fewest": ("is_need(columns, thing)", "serves_need(one, need)", "fewest(columns, needs)"),
    "texts": ("question_text(question)", "read_question(columns, text)"),
}
CLASSES = {
    "kept": ("Kept(table, choice)", ("put(row)", "take(number)", "sorted_by(one)", "next_number()", "ask(question)",
                                     "moved()")),
    "chosen": ("Chosen(table, changes, room)", ("ask(question, often)", "leave(question)", "asks()", "choice()",
                                                "price()", "made()")),
    "desk": ("Desk()", ("say(row)",)),
}
ERRORS = ("ListError", "TooMany", "NoNumber", "NoQuestion", "NoRow", "NoText")


def module_of(name):
    return importlib.import_module("stretchkeep." + name)


class Interface(unittest.TestCase):
    def test_functions(self):
        for file, listed in FUNCTIONS.items():
            for shown in listed:
                name = shown.partition("(")[0]
                function = getattr(module_of(file), name)
                self.assertTrue(inspect.isfunction(function), shown)
                self.assertEqual(function.__module__, "stretchkeep." + file)
                self.assertEqual(name + str(inspect.signature(function)), shown)

    def test_classes_and_their_own_methods(self):
        for file, (shown, methods) in CLASSES.items():
            name = shown.partition("(")[0]
            kind = getattr(module_of(file), name)
            self.assertEqual(kind.__module__, "stretchkeep." + file)
            self.assertEqual(name + str(inspect.signature(kind)), shown)
            for method in methods:
                title, _, arguments = method.partition("(")
                own = vars(kind)[title]
                self.assertTrue(inspect.isfunction(own), method)
                names = list(inspect.signature(own).parameters)
                self.assertEqual(f"{title}({', '.join(names[1:])})", method)

    def test_errors(self):
        for name in ERRORS:
            self.assertEqual(getattr(module_of("errors"), name).__module__, "stretchkeep.errors")


if __name__ == "__main__":
    unittest.main()
