import importlib
import inspect
import unittest

INTERFACE = {
    "allfirst.rows": {
        "row_hour": ["row", "hours"],
        "under": ["row", "other"],
        "joined": ["row", "other"],
        "shifted": ["row", "wait"],
        "thinned": ["rows"],
    },
    "allfirst.forms": {
        "thing_form": ["thing"],
        "waited": ["form", "wait"],
        "form_hour": ["form", "hours"],
        "first_of": ["forms", "most"],
        "all_of": ["forms", "most"],
        "put_into": ["form", "forms", "most"],
    },
    "allfirst.lags": {
        "lag": ["one", "other"],
        "lag_paper": ["one", "other"],
        "later_by": ["one", "other", "turns", "many"],
        "compared": ["one", "other", "many"],
    },
    "allfirst.columns": {
        "column_hour": ["column", "hours"],
        "columns_hour": ["columns", "hours"],
        "over": ["column", "other"],
        "thinned_columns": ["columns"],
        "turned": ["form", "most"],
        "turned_back": ["columns", "most"],
        "meeting": ["row", "column"],
    },
    "allfirst.boxes": {
        "latest": ["forms", "deadlines", "most"],
        "earliest": ["lists", "floors", "most"],
        "keeps_latest": ["box", "hours"],
        "keeps_earliest": ["box", "hours"],
        "windows": ["latest_ones", "earliest_ones"],
    },
    "allfirst.holding": {
        "slack": ["form", "hours", "thing"],
        "gain": ["form", "hours", "thing"],
        "ways": ["form", "hours"],
        "holders": ["form", "hours", "most"],
    },
    "allfirst.rounds": {
        "round_hours": ["forms", "hours", "times"],
        "round_forms": ["forms", "times", "most"],
        "is_paper": ["forms", "hours", "pace"],
        "bound": ["hours", "pace", "start", "times"],
    },
    "allfirst.plan": {
        "Plan": ["name", "givens", "rows"],
        "Book": ["plans"],
        "plan_by": ["book", "name"],
    },
    "allfirst.looking": {
        "is_name": ["text"],
        "weight": ["book", "name"],
        "looked": ["book"],
    },
    "allfirst.running": {
        "hours_of": ["book", "name", "hours"],
        "told_hour": ["book", "name", "hours"],
    },
    "allfirst.planforms": {
        "forms_of": ["book", "name", "most"],
        "told_form": ["book", "name", "most"],
        "planned": ["name", "many", "form"],
    },
    "allfirst.writing": {
        "shown": ["book"],
    },
    "allfirst.reading": {
        "read": ["text"],
    },
    "allfirst.judging": {
        "judged": ["text", "one", "other", "most"],
        "kept_by": ["text", "name", "deadline", "most"],
        "held_up": ["text", "name", "hours", "most"],
    },
    "allfirst.errors": {
        "BadRow": ["row"],
        "NoName": ["row"],
    },
}


class Interface(unittest.TestCase):
    def test_names_and_arguments(self):
        for module, names in INTERFACE.items():
            for name, arguments in names.items():
                with self.subTest(module, name=name):
                    asked = getattr(importlib.import_module(module), name)
                    self.assertEqual(list(inspect.signature(asked).parameters), arguments)
                    self.assertEqual(asked.__module__, module)


if __name__ == "__main__":
    unittest.main()
