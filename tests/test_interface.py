"""The interface: which names each file defines, with which parameters, and which methods stand in each class."""

import importlib
import inspect
import unittest

from mutesigns.papers import Denial, Paper, fixed

PART_ERRORS = ["BadSide", "BadSaying", "BadFact", "BadBook", "BadGrid", "BadWord", "BadSheet", "BadCutting", "BadTies",
               "BadHeard", "BadValue", "BadNaming", "BadTurning", "BadNumber", "BadPaper", "BadDesk", "Misfit"]
VALUE_ERRORS = ["Missing", "NoSign", "NoFact", "NoStem", "NoEnding", "NoName", "Twice"]

FUNCTIONS = {
    "checks": {
        "is_integer": "(value)", "is_within": "(value, least, most)", "is_name": "(value)", "is_side": "(value)",
        "is_truth": "(value)", "is_word": "(value)", "is_numbers": "(value)", "first_twice": "(values)",
    },
    "papers": {"fixed": "(value)"},
    "facts": {"as_fact": "(value)"},
    "joins": {
        "lots_of": "(book, sayings, side)", "chain_of": "(book, sayings, side, one, other)",
    },
    "partings": {"parting_of": "(book, sayings, side, one, other)"},
    "breaks": {"break_of": "(book, sayings)", "is_break": "(book, sayings, value)"},
    "plain": {"finest": "(book)", "word_in": "(book, side, one, other)"},
    "check_plain": {
        "shows_chain": "(book, sayings, side, one, other, value)",
        "shows_parting": "(book, sayings, side, one, other, value)", "shows_plain": "(book, value)",
    },
    "refusing": {"tree_with": "(book, sayings)", "grid_with": "(book, sayings)"},
    "possible": {"grid_of": "(book)"},
    "check_trees": {"is_tree": "(book, sayings, value)", "shows_grid": "(book, value)"},
    "answers": {"answer": "(book, asked)", "words_of": "(book)", "sure_sayings": "(book)"},
    "suregrid": {"sure_grid": "(book)", "parts_of": "(one, other)"},
    "together": {"together": "(book, sayings)"},
    "check_answers": {"shows_answer": "(book, asked, value)", "shows_together": "(book, sayings, value)"},
    "bearing": {"bears": "(book, asked, numbers)", "bearing": "(book, asked)", "all_bearing": "(book, asked)"},
    "clashes": {"clash": "(book)", "all_clashes": "(book)"},
    "slips": {"slips": "(book)", "all_slips": "(book)", "greatest_lots": "(book)"},
    "check_slips": {
        "shows_bearing": "(book, asked, value)", "shows_clash": "(book, value)", "shows_slips": "(book, value)",
    },
    "listing": {
        "grids": "(book)", "many_grids": "(book)", "grid_at": "(book, number)", "number_of": "(book, grid)",
        "part_of": "(grid, signs)",
    },
    "counts": {"many_by": "(book)", "many_on": "(book, grid)"},
    "extremes": {"fewest_of": "(book, side)", "most_of": "(book, side)", "least_shapes": "(book)"},
    "check_counts": {
        "shows_fewest": "(book, side, value)", "shows_most": "(book, side, value)", "shows_shapes": "(book, value)",
    },
    "cuttings": {
        "cuttings": "(sheet)", "tied_lots": "(sheet)", "seams": "(sheet, cutting)", "sayings_by": "(sheet, cutting)",
        "seams_at": "(sheet, cutting, stem, ending)",
    },
    "sheetgaps": {
        "reading_of": "(book, sheet)", "words_in": "(book, sheet, stem, ending)",
        "word_for": "(book, sheet, stem, ending, word)",
    },
    "check_sheets": {
        "shows_reading": "(book, sheet, value)", "shows_word": "(book, sheet, stem, ending, word, value)",
    },
    "beside": {
        "ties_of": "(grid)", "spelled": "(one, other)", "beside_fact": "(one, other)", "apart_facts": "(one, other)",
        "tied_book": "(signs, beside, apart)",
    },
    "bars": {"bar_of": "(ties)", "left_out": "(ties)"},
    "lines": {
        "hanging": "(ties)", "laid": "(ties)", "all_laid": "(ties)", "many_laid": "(ties)",
        "lot_crossed": "(grid, sign)", "sides": "(ties, tie, other)",
    },
    "check_beside": {
        "shows_laid": "(ties, value)", "shows_sides": "(ties, tie, other, value)", "shows_left_out": "(ties, value)",
    },
    "ways": {
        "is_heard": "(value)", "is_value": "(value)", "syllables": "(heard, way)", "consonant_of": "(value)",
        "vowel_of": "(value)", "exchanged": "(heard, one, other)",
    },
    "namings": {
        "values_of": "(namings)", "stand": "(book, namings)", "ways_for": "(book, word, heard)",
        "gives_away": "(book, namings)", "all_given": "(book, namings)", "lots_standing": "(book, namings)",
    },
    "check_namings": {
        "shows_stand": "(book, namings, value)", "shows_given": "(book, namings, value)",
        "shows_lots": "(book, namings, value)",
    },
    "readings": {"read_in": "(grid, known)", "next_known": "(grid, known)"},
    "known": {"fewest_known": "(grid)", "all_fewest_known": "(grid)"},
    "enough": {"enough": "(book, known)", "fewest_enough": "(book)"},
    "lettered": {"letters_for": "(book, values, side, sign)", "sounds_of": "(book, values, word)"},
    "check_reading": {
        "shows_fewest_known": "(grid, value)", "shows_enough": "(book, known, value)",
        "shows_fewest_enough": "(book, value)", "shows_letters": "(book, values, side, sign, value)",
    },
    "turnings": {"leads": "(turning, book, other)"},
    "unparted": {
        "turnings": "(book)", "like_signs": "(book)", "like_pairs": "(book)",
        "turning_to": "(book, other, pairs=(), is_crossed=None)",
    },
    "check_turnings": {
        "shows_leads": "(turning, book, other, value)", "shows_turning_to": "(book, other, pairs, is_crossed, value)",
    },
    "asks": {
        "asks_of": "(book)", "answers_of": "(grid, asks)", "rows_had": "(book, asks)",
        "settles": "(book, saying, asks)", "least_lot": "(book, saying, asks)",
    },
    "asktrees": {"best_ask": "(book)", "grid_plan": "(book)", "saying_plan": "(book, saying, asks)"},
    "check_asks": {
        "shows_settles": "(book, saying, asks, value)", "shows_least_lot": "(book, saying, asks, value)",
        "shows_best_ask": "(book, value)", "shows_grid_plan": "(book, value)",
        "shows_saying_plan": "(book, saying, asks, value)",
    },
    "scribe": {"written": "(grid, stems, endings)", "squares": "(words)"},
    "desk_lines": {"read_line": "(line)"},
    "desk_deeds": {"changed": "(shelf, line)"},
    "desk_asks": {"answer_of": "(shelf, line)"},
    "stories": {"replay": "(lines)", "parting": "(one, other)"},
}

CLASSES = {
    "errors": {
        **{name: {"__init__": "(self, part)"} for name in PART_ERRORS},
        **{name: {"__init__": "(self, value)"} for name in VALUE_ERRORS},
        "Impossible": {"__init__": "(self, paper)"}, "TooMany": {"__init__": "(self, what, most)"}, "Nothing": {},
        "BadText": {"__init__": "(self, line, item)"}, "BadLine": {"__init__": "(self, line, error)"},
    },
    "papers": {
        "Paper": {"__init__": "(self, kind, *parts)", "__eq__": "(self, other)"},
        "Denial": {"__init__": "(self, kind, *parts)", "__eq__": "(self, other)"},
    },
    "sayings": {
        "Saying": {
            "__init__": "(self, side, one, other, alike=True)", "contrary": "(self)", "crossed": "(self)",
            "renamed": "(self, names)", "read": "(text)", "__eq__": "(self, other)", "__str__": "(self)",
        },
    },
    "facts": {
        "Fact": {
            "__init__": "(self, sayings)", "crossed": "(self)", "renamed": "(self, names)", "read": "(text)",
            "__len__": "(self)", "__eq__": "(self, other)", "__str__": "(self)",
        },
    },
    "books": {
        "Book": {
            "__init__": "(self, signs, facts=(), most_rows=None, most_columns=None)", "with_fact": "(self, fact)",
            "without": "(self, numbers)", "with_sign": "(self, sign)",
            "bounded": "(self, most_rows, most_columns)", "with_book": "(self, other)", "crossed": "(self)",
            "renamed": "(self, names)", "read": "(text)", "__len__": "(self)", "__eq__": "(self, other)",
            "__str__": "(self)",
        },
    },
    "grids": {
        "Grid": {
            "__init__": "(self, signs, rows, columns)", "of": "(signs, places)", "place": "(self, sign)",
            "lots": "(self, side)", "are_alike": "(self, side, one, other)", "holds": "(self, saying)",
            "keeps_fact": "(self, fact)", "broken": "(self, book)", "keeps": "(self, book)", "sayings": "(self)",
            "crossed": "(self)", "renamed": "(self, names)", "read": "(text)", "__eq__": "(self, other)",
            "__str__": "(self)",
        },
    },
    "joins": {"Chain": {"__init__": "(self, signs)"}, "NoChain": {"__init__": "(self, signs)"}},
    "partings": {"Parting": {"__init__": "(self, mine, its, by)"}},
    "plain": {"Finest": {"__init__": "(self, grid)"}, "Broken": {"__init__": "(self, broken)"}},
    "possible": {"Kept": {"__init__": "(self, grid)"}, "NoGrid": {"__init__": "(self, tree)"}},
    "answers": {
        "Sure": {"__init__": "(self, tree)"}, "Open": {"__init__": "(self, one, other)"},
        "Never": {"__init__": "(self, trees)"},
    },
    "together": {
        "Together": {"__init__": "(self, grid)"}, "Quarrel": {"__init__": "(self, numbers, tree, grids)"},
    },
    "bearing": {
        "Bears": {"__init__": "(self, numbers, tree, grids)"}, "Unborne": {"__init__": "(self, grid)"},
    },
    "clashes": {"Clash": {"__init__": "(self, numbers, tree, grids)"}},
    "slips": {"Slips": {"__init__": "(self, numbers, grid, clashes)"}},
    "extremes": {
        "Fewest": {"__init__": "(self, grid, tree)"}, "Most": {"__init__": "(self, grid, trees)"},
        "Shapes": {"__init__": "(self, grids, trees)"},
    },
    "sheets": {
        "Sheet": {
            "__init__": "(self, stems, endings, cells)", "word_at": "(self, stem, ending)",
            "with_word": "(self, stem, ending, word)", "crossed": "(self)", "with_sheet": "(self, other)",
            "read": "(text)", "__eq__": "(self, other)", "__str__": "(self)",
        },
    },
    "cuttings": {"Cutting": {"__init__": "(self, bodies, tails)", "__eq__": "(self, other)"}},
    "sheetgaps": {
        "Reading": {"__init__": "(self, cutting, grid)"}, "SureWord": {"__init__": "(self, rows)"},
        "OpenWord": {"__init__": "(self, one, other)"}, "NoReading": {"__init__": "(self, trees)"},
        "NeverWord": {"__init__": "(self, trees)"},
    },
    "beside": {
        "Ties": {
            "__init__": "(self, signs, pairs)", "are_beside": "(self, one, other)", "without": "(self, signs)",
            "renamed": "(self, names)", "__len__": "(self)", "__eq__": "(self, other)",
        },
    },
    "bars": {
        "Claw": {"__init__": "(self, sign, others)"}, "Diamond": {"__init__": "(self, one, other, tips)"},
        "Ring": {"__init__": "(self, signs)"}, "LeftOut": {"__init__": "(self, signs, grid, bars)"},
    },
    "lines": {
        "Laid": {"__init__": "(self, grid)"}, "OneSide": {"__init__": "(self, walk)"},
        "TwoSides": {"__init__": "(self, walk)"}, "Loose": {"__init__": "(self, lot)"},
    },
    "values": {
        "Values": {
            "__init__": "(self, pairs)", "value": "(self, sign)", "sayings": "(self)", "fits": "(self, grid)",
            "__eq__": "(self, other)", "__str__": "(self)",
        },
    },
    "namings": {
        "Naming": {"__init__": "(self, word, heard, way)", "__eq__": "(self, other)", "__str__": "(self)"},
        "Muddled": {"__init__": "(self, by)"}, "Stands": {"__init__": "(self, grid)"},
        "Barred": {"__init__": "(self, tree)"}, "NothingGiven": {"__init__": "(self, trees)"},
        "Given": {"__init__": "(self, saying, grid)"}, "Lots": {"__init__": "(self, greatest, barred)"},
    },
    "known": {"FewestKnown": {"__init__": "(self, signs, lines)"}},
    "enough": {
        "Enough": {"__init__": "(self, rows)"}, "FewestEnough": {"__init__": "(self, signs, rows, denials)"},
        "Unread": {"__init__": "(self, grid, side, sign)"}, "Twofold": {"__init__": "(self, one, other)"},
    },
    "lettered": {"Letters": {"__init__": "(self, rows, new)"}},
    "turnings": {
        "Turning": {
            "__init__": "(self, names, is_crossed=False)", "made": "(self, value)", "back": "(self)",
            "then": "(self, other)", "__eq__": "(self, other)",
        },
        "Leads": {"__init__": "(self, trees, back)"}, "Astray": {"__init__": "(self, grid, is_back)"},
    },
    "unparted": {
        "Led": {"__init__": "(self, turning, trees, back)"}, "Unled": {"__init__": "(self, grids, others)"},
    },
    "asks": {
        "Settles": {"__init__": "(self, rows)"}, "Unsettled": {"__init__": "(self, one, other)"},
        "LeastLot": {"__init__": "(self, numbers, rows, pairs)"},
    },
    "asktrees": {
        "BestAsk": {"__init__": "(self, ask, table)"}, "OneGrid": {"__init__": "(self, grid)"},
        "Plan": {"__init__": "(self, depth, tree)"},
    },
    "shelves": {"Shelf": {"__init__": "(self, things=())", "thing": "(self, name)", "__eq__": "(self, other)"}},
    "desk": {
        "Desk": {
            "__init__": "(self)", "told": "(self, *lines)", "__call__": "(self, line)", "tried": "(self, *lines)",
            "undo": "(self)", "redo": "(self)", "twin": "(self)", "__len__": "(self)", "__contains__": "(self, value)",
            "__eq__": "(self, other)",
        },
    },
}

DENIALS = {"Denial", "NoChain", "Broken", "NoGrid", "Never", "Quarrel", "Unborne", "Clash", "NoReading", "NeverWord", "Claw",
           "Diamond", "Ring", "TwoSides", "Muddled", "Barred", "Given", "Unread", "Twofold", "Astray", "Unled",
           "Unsettled"}


class Interface(unittest.TestCase):
    def test_functions(self):
        for file, functions in FUNCTIONS.items():
            module = importlib.import_module(f"mutesigns.{file}")
            for name, parameters in functions.items():
                with self.subTest(file=file, name=name):
                    function = getattr(module, name)
                    self.assertTrue(inspect.isfunction(function))
                    self.assertEqual(function.__module__, module.__name__)
                    self.assertEqual(str(inspect.signature(function)), parameters)

    def test_classes(self):
        for file, classes in CLASSES.items():
            module = importlib.import_module(f"mutesigns.{file}")
            for name, methods in classes.items():
                with self.subTest(file=file, name=name):
                    self.assertEqual(getattr(module, name).__module__, module.__name__)
                    self.check_methods(getattr(module, name), methods)

    def test_papers(self):
        for file, classes in CLASSES.items():
            module = importlib.import_module(f"mutesigns.{file}")
            for shape in [getattr(module, name) for name in classes if file != "papers"]:
                if issubclass(shape, Paper):
                    with self.subTest(paper=shape.__name__):
                        self.check_paper(shape)

    def check_paper(self, shape):
        names = list(inspect.signature(shape).parameters)
        given = {name: [at, [name]] for at, name in enumerate(names)}
        paper, is_denial = shape(**given), shape.__name__ in DENIALS
        self.assertEqual((paper.kind, paper.parts), (shape.__name__.lower(), fixed(list(given.values()))))
        self.assertEqual([getattr(paper, name) for name in names], list(paper.parts))
        self.assertEqual((issubclass(shape, Denial), bool(paper)), (is_denial, not is_denial))
        self.assertEqual(paper, shape(*given.values()))
        self.assertNotEqual(paper, Denial(paper.kind, *paper.parts) if is_denial else Paper(paper.kind, *paper.parts))

    def check_methods(self, shape, methods):
        for method, parameters in methods.items():
            self.assertIn(method, vars(shape))
            function = vars(shape)[method]
            function = getattr(function, "__func__", function)
            self.assertEqual((method, str(inspect.signature(function))), (method, parameters))


if __name__ == "__main__":
    unittest.main()
