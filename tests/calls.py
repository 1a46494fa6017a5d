"""A valid call of each function of the interface, and what is wrong in the place of each argument."""

from rowsthatname import beside as beside_file
from rowsthatname import built as built_file
from rowsthatname import covers as covers_file
from rowsthatname import detecting as detecting_file
from rowsthatname import faults as faults_file
from rowsthatname import further as further_file
from rowsthatname import games as games_file
from rowsthatname import hearing as hearing_file
from rowsthatname import lean as lean_file
from rowsthatname import logs as logs_file
from rowsthatname import naming as naming_file
from rowsthatname import rigs as rigs_file
from rowsthatname import texts as texts_file
from rowsthatname import walks as walks_file
from rowsthatname.errors import (BadFaults, BadLog, BadLot, BadNumber, BadOutcomes, BadPaper, BadRig, BadRow, BadShape,
                                 BadSuite, BadText)

RIG = ((2, 3, 2), (((0, 0), (1, 1)), ((1, 2),)))
SHAPE = (2, 2)
ONE = (((0, 0), (1, 0)), ((0, 1), (2, 0)))
OTHER = (((0, 1), (1, 1)),)
SUITE = [(0, 0, 0), (1, 1, 1), (0, 0, 0)]
HEARD = (True, False, True)
LOT = ((0, 0), (1, 0))

OF_RIG = {"rig": RIG}
OF_SHAPE = {"rig": RIG, "shape": SHAPE}
OF_PAIR = {**OF_SHAPE, "one": ONE, "other": OTHER}
OF_SUITE = {**OF_SHAPE, "suite": SUITE}
OF_WRONG = {**OF_SUITE, "wrong": 1}
OF_HEARD = {**OF_SUITE, "heard": HEARD}
OF_TOLD = {**OF_HEARD, "wrong": 1}
OF_COVER = {**OF_RIG, "size": 2, "suite": SUITE}
OF_MOST = {**OF_SUITE, "most": 1}
LOG = [((0, 0, 0), True), ((1, 1, 1), False), ((0, 0, 0), True)]
OF_LOG = {**OF_SHAPE, "log": LOG}
OF_STEPS = {**OF_RIG, "one": (0, 0, 0), "other": (1, 1, 1)}
OF_BESIDE = {**OF_SUITE, "other": [(1, 0, 1), (0, 0, 1)]}
BAR = ("bar", (((((0, 0), (1, 0)),), (((0, 0), (2, 0)),)), ()))
HIDES = ("hides", (), (((0, 1), (1, 0)),))
TEXT_OF_RIG = "knobs 2 3 2\nbarred 0.0 1.1\nbarred 1.2"

CALLS = (
    (rigs_file, "need_rig", OF_RIG),
    (rigs_file, "need_lot", {**OF_RIG, "lot": ((0, 1), (1, 1))}),
    (rigs_file, "is_let", {**OF_RIG, "value": (1, 1, 1)}),
    (rigs_file, "let_rows", OF_RIG),
    (rigs_file, "rows_meeting", {**OF_RIG, "lot": ((0, 1),)}),
    (rigs_file, "is_met", {**OF_RIG, "lot": ((0, 1),)}),
    (faults_file, "need_shape", OF_SHAPE),
    (faults_file, "all_faults", OF_SHAPE),
    (faults_file, "outcomes", {**OF_SHAPE, "faults": ONE, "suite": SUITE}),
    (faults_file, "classes", OF_SHAPE),
    (faults_file, "are_alike", OF_PAIR),
    (faults_file, "parting_rows", OF_PAIR),
    (faults_file, "failing_rows", {**OF_SHAPE, "faults": ONE}),
    (naming_file, "names", OF_SUITE),
    (naming_file, "bears", OF_WRONG),
    (naming_file, "mixed_pair", OF_WRONG),
    (naming_file, "margin", OF_SUITE),
    (naming_file, "mixed_lots", OF_SUITE),
    (naming_file, "name_paper", OF_WRONG),
    (naming_file, "check_names", {**OF_WRONG, "paper": ("mixed", (), (LOT,), (0, 0, 0))}),
    (hearing_file, "fitting", OF_TOLD),
    (hearing_file, "fitting_classes", OF_TOLD),
    (hearing_file, "is_named", OF_TOLD),
    (hearing_file, "verdict", {**OF_TOLD, "lot": LOT}),
    (hearing_file, "sure_lots", OF_TOLD),
    (hearing_file, "possible_lots", OF_TOLD),
    (hearing_file, "least_wrong", OF_HEARD),
    (hearing_file, "wrong_rows", OF_TOLD),
    (detecting_file, "detects", OF_WRONG),
    (detecting_file, "hidden_case", OF_WRONG),
    (detecting_file, "least_shown", OF_SUITE),
    (detecting_file, "hidden_lots", OF_SUITE),
    (detecting_file, "suspects", OF_TOLD),
    (detecting_file, "detect_paper", OF_WRONG),
    (detecting_file, "check_detects", {**OF_WRONG, "paper": ("hidden", LOT, ())}),
    (detecting_file, "first_detecting", OF_SUITE),
    (detecting_file, "hidden_behind", {**OF_SUITE, "many": 2}),
    (detecting_file, "meeting_counts", OF_SUITE),
    (covers_file, "lacking", OF_COVER),
    (covers_file, "is_cover", OF_COVER),
    (covers_file, "strength", {**OF_RIG, "suite": SUITE}),
    (covers_file, "least_met", OF_COVER),
    (covers_file, "enough_settings", OF_SHAPE),
    (covers_file, "cover_paper", OF_COVER),
    (covers_file, "check_cover", {**OF_COVER, "paper": ("lacks", ((1, 0), (2, 1)), (1, 0, 1))}),
    (covers_file, "greedy_cover", {**OF_RIG, "size": 2}),
    (further_file, "further_rows", OF_MOST),
    (further_file, "fewest_further", OF_MOST),
    (further_file, "further_paper", OF_MOST),
    (further_file, "check_further", {**OF_SUITE, "most": 0, "paper": ("tree", ((), (((0, 1), (2, 0)),), ()))}),
    (lean_file, "needless_rows", OF_SUITE),
    (lean_file, "lean_suite", OF_SUITE),
    (lean_file, "idle_rows", OF_SUITE),
    (lean_file, "split_by", {**OF_HEARD, "row": (1, 0, 1)}),
    (lean_file, "next_row", OF_HEARD),
    (lean_file, "worst_after", OF_HEARD),
    (built_file, "mixed_count", OF_SUITE),
    (built_file, "built_suite", OF_SUITE),
    (built_file, "exchanges", {**OF_SUITE, "number": 1}),
    (built_file, "least_by_count", OF_SHAPE),
    (built_file, "apart_pairs", OF_SHAPE),
    (built_file, "check_apart", {**OF_SHAPE, "pairs": (((), (LOT,)),)}),
    (logs_file, "left_faults", OF_LOG),
    (logs_file, "first_false", OF_LOG),
    (logs_file, "foretold", {**OF_LOG, "row": (0, 0, 1)}),
    (logs_file, "open_rows", OF_LOG),
    (games_file, "game_paper", {**OF_LOG, "depth": 3}),
    (games_file, "check_game", {**OF_LOG, "depth": 0, "paper": BAR}),
    (games_file, "fewest_next", {**OF_LOG, "most": 3}),
    (walks_file, "many_rows", OF_RIG),
    (walks_file, "row_at", {**OF_RIG, "number": 3}),
    (walks_file, "number_of", {**OF_RIG, "row": (1, 0, 1)}),
    (walks_file, "islands", OF_RIG),
    (walks_file, "steps_between", OF_STEPS),
    (walks_file, "walk_paper", OF_STEPS),
    (walks_file, "check_walk", {**OF_STEPS, "paper": ("walk", ((0, 0, 0), (1, 0, 0), (1, 1, 0), (1, 1, 1)))}),
    (beside_file, "settles", OF_BESIDE),
    (beside_file, "settle_paper", OF_BESIDE),
    (beside_file, "check_settle", {**OF_BESIDE, "paper": HIDES}),
    (beside_file, "translated", {**OF_BESIDE, "heard": HEARD}),
    (beside_file, "settled_rows", OF_SUITE),
    (beside_file, "kinds", OF_SUITE),
    (beside_file, "weak_rows", OF_SUITE),
    (beside_file, "names_without", {**OF_SUITE, "lost": 1}),
    (texts_file, "rig_text", OF_RIG),
    (texts_file, "faults_text", {**OF_SHAPE, "faults": ONE}),
    (texts_file, "log_text", {**OF_RIG, "log": LOG}),
    (texts_file, "read_rig", {"text": TEXT_OF_RIG}),
    (texts_file, "read_faults", {**OF_SHAPE, "text": "fault 0.0 1.0\nfault 0.1 2.0"}),
    (texts_file, "read_log", {**OF_RIG, "text": "row 0 0 0 fails\nrow 1 1 1 good"}),
)

# Arguments of which nothing is refused.
ANY_VALUE = (("is_let", "value"), ("verdict", "lot"))

# For each argument its error, the field of it, and wrong values with what the field is then.
# The first one is wrong by any rig and shape.
WRONG = {
    "rig": (BadRig, "path", ((None, ()), (((2,), []), (1,)), (((2, True), ()), (0, 1)),
                             (((2,), (((0, 0),), ((0, 0),))), (1, 1)))),
    "lot": (BadLot, "value", ((None, None), (((0, 2),), ((0, 2),)), ([(0, 0)], [(0, 0)]))),
    "shape": (BadShape, "value", ((None, None), ((4, 1), (4, 1)), ([2, 2], [2, 2]))),
    "faults": (BadFaults, "value", ((None, None), ((((0, 0), (1, 1)),), (((0, 0), (1, 1)),)), ([], []))),
    "suite": (BadSuite, "place", ((None, None), ([(0, 0, 0), (0, 2, 0)], 1), ([(0, 0, 0)] * 41, None))),
    "heard": (BadOutcomes, "value", ((None, None), ((True, False), (True, False)),
                                     ([True, False, True], [True, False, True]), ((True, 0, 1), (True, 0, 1)))),
    "wrong": (BadNumber, "value", ((None, None), (-1, -1), (6, 6), (True, True))),
    "many": (BadNumber, "value", ((None, None), (-1, -1), (4, 4), (True, True))),
    "size": (BadNumber, "value", ((None, None), (0, 0), (4, 4), (True, True))),
    "most": (BadNumber, "value", ((None, None), (-1, -1), (4, 4), (True, True))),
    "number": (BadNumber, "value", ((None, None), (-1, -1), (3, 3), (True, True))),
    "depth": (BadNumber, "value", ((None, None), (-1, -1), (4, 4), (True, True))),
    "lost": (BadNumber, "value", ((None, None), (-1, -1), (6, 6), (True, True))),
    "row": (BadRow, "value", ((None, None), ((0, 1, 0), (0, 1, 0)), ([0, 0, 0], [0, 0, 0]))),
    "log": (BadLog, "place", ((None, None), ([((0, 0, 0), True), ((0, 1, 0), True)], 1), ([LOG[0]] * 41, None))),
    "text": (BadText, "line", ((None, None), ("x", 0), ("none ", 0))),
    "pairs": (BadPaper, "word", ((None, "pairs"), ([], "pairs"), (((),), "pairs"))),
    "paper": (BadPaper, "word", ((None, "form"), (("bears",), "form"), (["bears", ()], "form"))),
}
WRONG["one"] = WRONG["other"] = WRONG["faults"]
# The same of arguments that are of another kind in some functions.
WRONG_HERE = {("split_by", "row"): (BadNumber, *WRONG["row"][1:]),
              ("row_at", "number"): (BadNumber, "value", ((None, None), (-1, -1), (7, 7), (True, True)))}
WRONG_HERE.update({(name, key): WRONG["row"] for name in ("steps_between", "walk_paper", "check_walk")
                   for key in ("one", "other")})
WRONG_HERE.update({(name, "other"): WRONG["suite"] for name in ("settles", "settle_paper", "check_settle",
                                                                "translated")})

# Arguments by which a rig and a shape are too great, and what TooGreat then tells of each function that raises it.
GREAT = {"rig": ((4, 4, 4, 4, 4), ()), "shape": (3, 2), "lot": ((0, 0), (1, 0), (2, 0)), "value": (0, 0, 0, 0, 0),
         "faults": (((0, 0), (1, 0), (2, 0)),), "one": (((0, 0), (1, 0), (2, 0)),), "other": (),
         "suite": [(0, 0, 0, 0, 0)], "heard": (True,), "wrong": 0, "many": 1, "size": 2, "most": 0, "number": 0,
         "row": (0, 0, 0, 0, 0), "pairs": (((), (((0, 0), (1, 0), (2, 0)),)),), "depth": 0, "lost": 0,
         "log": [((0, 0, 0, 0, 0), False)]}
GREAT_HERE = {("read_rig", "text"): "knobs 4 4 4 4 4", ("read_faults", "text"): "fault 0.0 1.0 2.0",
              ("read_log", "text"): "row 0 0 0 0 0 good"}
GREAT_HERE.update({(name, key): (0, 0, 0, 0, 0) for name in ("steps_between", "walk_paper", "check_walk")
                   for key in ("one", "other")})
GREAT_HERE.update({(name, "other"): [(0, 0, 1, 0, 0)] for name in ("settles", "settle_paper", "check_settle",
                                                                   "translated")})
TOO_GREAT = {name: 2000 for name in (
    "all_faults", "classes", "names", "bears", "mixed_pair", "margin", "mixed_lots", "name_paper", "fitting",
    "fitting_classes", "is_named", "verdict", "sure_lots", "possible_lots", "least_wrong", "wrong_rows", "detects",
    "hidden_case", "least_shown", "hidden_lots", "detect_paper", "first_detecting", "hidden_behind", "needless_rows",
    "lean_suite", "idle_rows", "split_by", "next_row", "worst_after", "mixed_count", "built_suite", "exchanges",
    "least_by_count", "apart_pairs", "left_faults", "first_false", "foretold", "open_rows", "game_paper", "fewest_next",
    "settles", "settle_paper", "translated", "settled_rows", "kinds", "weak_rows", "names_without")}
TOO_GREAT.update({name: 36 for name in ("further_rows", "fewest_further", "further_paper")})
# Papers that are looked at without going through all faults, and such of which this has to be done.
LIGHT_PAPERS = {"check_names": ("mixed", (), (((0, 0), (1, 0), (2, 1)),), (0, 0, 1, 0, 1)),
                "check_detects": ("hidden", ((0, 0), (1, 0), (2, 1)), ()),
                "check_cover": ("lacks", ((0, 0), (1, 1)), (0, 1, 0, 0, 0)),
                "check_further": ("tree", ((), (((0, 0), (1, 0), (2, 1)),), ())),
                "check_game": ("bar", (((), (((0, 0), (1, 0), (2, 1)),)), ())),
                "check_walk": ("walk", ((0, 0, 0, 0, 0),)),
                "check_settle": ("hides", (), (((0, 0), (1, 0), (2, 1)),))}
HEAVY_PAPERS = {"check_names": (("bears", ()), ("bears", None)),
                "check_detects": (("detects", ()), ("detects", None)),
                "check_further": (("rows", ()), ("rows", None)),
                "check_game": (("tree", None), ("tree", ())),
                "check_settle": (("settles", ()), ("settles", None))}


def refused_of(name, given):
    """The arguments of a function of which wrong values are refused, in their order."""
    return [key for key in given if key in WRONG and (name, key) not in ANY_VALUE]


def wrong_of(name, key):
    """The error of an argument of a function, the field of it, and wrong values."""
    return WRONG_HERE.get((name, key), WRONG[key])


def great_of(name, given):
    """The arguments of a function with a rig and a shape that are too great for many."""
    great = {key: LIGHT_PAPERS[name] if key == "paper" else GREAT.get(key, None) for key in given}
    great.update({key: GREAT_HERE[name, key] for key in given if (name, key) in GREAT_HERE})
    return great
