"""The names of the interface: where each is defined, and which arguments it takes."""
import importlib
import inspect
import pathlib
import unittest

# Behind the * stand those that go by name alone; what follows = may be left out.
INTERFACE = {
    "rightkinds": {
        "is_word": "thing", "is_hand": "thing", "is_pair": "thing", "is_row": "thing", "is_rights": "thing",
        "is_heard": "thing",
    },
    "handpairs": {"pairs_of": "hands", "home_of": "pair"},
    "holdings": {
        "row_of": "rights town pair", "is_mine": "rights town pair", "burn_bars": "rights town pair * day",
        "burnt": "rights town pairs * day span",
    },
    "giving": {
        "given_to": "rights town pair to * rise", "letter_of": "rights town pair",
        "taken": "rights town letter * heard",
    },
    "roundings": {
        "rounded": "town tells * heard span", "round_paper": "town tells * heard",
        "rounded_by": "town tells paper * heard span",
    },
    "townlooks": {"mine_at": "tells pair", "held_twice": "tells * wary=()"},
    "matterkinds": {
        "is_name": "thing", "is_note": "thing", "is_matter": "thing", "are_burnings": "thing", "is_book": "thing",
        "first_book": "town",
    },
    "paths": {"path_of": "matters name", "path_voices": "matters name", "root_of": "matters name"},
    "bookchecker": {"lets_book": "rule thing"},
    "letting": {
        "lacks": "rule book name hands * day", "let_in": "rule book name hands * day",
        "each_alone": "rule book name hands * day",
    },
    "matterdeeds": {
        "opened": "rule book hands * day lower=None", "seated": "rule book name hand * day", "left": "book name hand",
        "voted": "rule book name hand * verdict='yes'", "laid": "book name", "risen": "book * rise",
    },
    "sway": {"swayed": "rule table burnings hands * day", "most_of": "rule table burnings hands"},
    "bounding": {"bound_of": "rule many", "greatest": "rule table burnings many * most=1000"},
    "benches": {
        "is_call": "thing", "benches_of": "call", "unfree": "call hands",
        "call_at": "rights town hands * day seats",
    },
    "hearing": {"heard_together": "one other"},
    "townrows": {"is_deed": "thing", "done": "rule book deed", "all_done": "rule book deeds"},
    "notes": {"note_of": "matters name", "read": "rule book name note * day"},
    "standing": {"appeals_of": "matters name", "standing": "matters name", "overturned": "matters"},
    "fractions": {"is_fraction": "thing", "fraction_sum": "fractions", "is_less": "one other"},
    "letterkinds": {"is_letter": "thing", "is_chest": "thing", "is_act": "thing"},
    "chests": {"first_chest": "rule town", "saved_of": "chest", "risen_chest": "rule saved * rise day"},
    "letterscome": {"came": "rule chest letter"},
    "righttexts": {"rights_text": "rights"},
    "records": {
        "names_told": "record", "voices_told": "record name", "votes_told": "record name", "burnings_told": "record",
        "bar_told": "record name hands * day span",
    },
    "nonepapers": {"seat_or_none": "call"},
    "nonechecker": {"lets_seating": "call thing"},
    "packing": {"packing_of": "call * most=35"},
    "packpapers": {"pack_paper": "call * most=35"},
    "packchecker": {"lets_packing": "call thing * most=35"},
    "townacts": {"acted": "rule chest act * day"},
    "bringing": {"where_lies": "tells pair", "brought": "tells town hands * day seats"},
    "roundchecker": {"lets_round": "town tells thing * heard"},
    "rightreadings": {"rights_read": "text"},
    "resting": {"rests_on": "matters name", "shaken": "matters * news=()"},
    "shaking": {"shake_paper": "matters name * news=()"},
    "shakechecker": {"lets_shaken": "matters name thing * news=()"},
    "replaying": {"replayed": "log"},
    "worldlogs": {"is_log": "thing"},
    "worldtexts": {"deed_line": "row", "log_lines": "log"},
    "sources": {"source_of": "matters name hand"},
    "sourcechecker": {"lets_source": "matters name hand thing"},
    "tables": {"table_of": "matters", "lacking": "table burnings"},
    "twice": {"twice_paper": "rule burnings"},
    "twicechecker": {"lets_twice": "rule burnings thing"},
    "worldreadings": {"read_row": "text", "read_log": "lines"},
    "errors": {},
}
# Of each class the methods, as they are called off an object.
CLASSES = {
    "worlds": {
        "World": {
            "__init__": "rule", "to_day": "day", "do_act": "town act", "let_come": "n", "save_town": "town",
            "fall": "town n=None", "day_now": "", "chest_of": "town", "is_wary": "town", "saved_many": "town",
            "mail": "", "burnings_ever": "", "table_ever": "", "log": "", "__len__": "", "__str__": "",
            "__eq__": "other", "__ne__": "other", "undo": "", "do_all": "rows * keep=False", "walks": "",
        },
    },
    "worlddesk": {"Desk": {"__init__": "", "say": "row"}},
}
REFUSALS = ("BenchError", "LackError", "NoPaper", "NoRight", "NoMatter", "NoDeed", "NoText", "NoMore", "NoRow",
            "NoTown", "NoHand", "NoName", "NoStep")


def arguments_of(function, behind=0):
    """The arguments as the table above tells them, but for so many ahead."""
    words, by_name = [], False
    for one in list(inspect.signature(function).parameters.values())[behind:]:
        if one.kind == one.KEYWORD_ONLY and not by_name:
            words.append("*")
            by_name = True
        words.append(one.name if one.default is one.empty else f"{one.name}={one.default!r}")
    return " ".join(words)


class TestInterface(unittest.TestCase):
    def test_functions(self):
        for file, functions in INTERFACE.items():
            module = importlib.import_module("strangerbench." + file)
            for name, arguments in functions.items():
                function = getattr(module, name)
                self.assertEqual(function.__module__, module.__name__, name)
                self.assertEqual(arguments_of(function), arguments, name)

    def test_all_modules(self):
        # Each module of the package is one of the interface.
        folder = pathlib.Path(__file__).resolve().parent.parent / "strangerbench"
        names = sorted([path.stem for path in folder.glob("*.py")])
        self.assertEqual(names, sorted(list(INTERFACE) + list(CLASSES) + ["__init__"]))

    def test_classes(self):
        for file, classes in CLASSES.items():
            module = importlib.import_module("strangerbench." + file)
            for name, methods in classes.items():
                own = getattr(module, name)
                self.assertEqual(own.__module__, module.__name__, name)
                for method, arguments in methods.items():
                    # It is defined in the class itself.
                    self.assertEqual(arguments_of(vars(own)[method], behind=1), arguments, method)

    def test_refusals(self):
        module = importlib.import_module("strangerbench.errors")
        for name in REFUSALS:
            self.assertEqual(getattr(module, name).__module__, module.__name__)


if __name__ == "__main__":
    unittest.main()
