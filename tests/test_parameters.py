"""Each wrong parameter is refused, the first of several, by position and by name."""

import importlib
import unittest

from alikeclash.breakclasses import Ladder
from alikeclash.desks import Desk
from alikeclash.errors import NotUsable
from alikeclash.groundclasses import Ground
from alikeclash.hourclasses import Hours
from alikeclash.live import LiveTable
from alikeclash.nestclasses import Nest
from alikeclash.planclasses import Planner
from alikeclash.replaying import replayed
from alikeclash.ruleclasses import made
from tests.samples import EMPTY, FREE, KEPT, LESSON, LINE, MUX, PAIRS, WHOLE
from tests.test_interface import CLASSES, FUNCTIONS, parameters

LOTS = (None, 0, True, "0", [0], (3,), (True,), (False, 1), (1, 0), (0, 0), (-1,), ((0,),), (None,))
GROUNDS = (None, 3, [3, ()], (True, ()), (3, []), (3, (((3,), ()),)), (3, (((1,), (2,)), ((0,), (2,)))), (-1, ()), (3,))
TABLES = (
    None, LINE[0], list(LINE), LINE + LINE[:1], ((0, 0, True),), ([0, 0, 0],), ((0, 0),), ((0, 0, -1),), ("000",), 0,
)
NUMBERS = (None, -1, True, False, "1", (1,), [1])
ROWS = NUMBERS + (4, 10 ** 12)
SEQUENCES = (None, [0, 1, 2], (0, 1), (0, 1, 1), (0, 1, 3), (0, True, 2), (False, 1, 2), (0, 1, 2, 3), (), "012", ((0,), 1, 2))
ROW_SEQUENCES = SEQUENCES[:6] + ((0, 1, 2), (0, 1, 2, 4), (0, 1, 2, 2), (0, True, 2, 3), (0, 1, 2, 3, 4), (), "0123")
GROUPS = LOTS[:5] + ((4,),) + LOTS[6:]
SENTENCES = (None, "always", ["always"], ("same", 3), ("same", True), ("not",), ("and", ("always",)), (), 0)
QUOTIENTS = (None, 1, True, (2, 4), (1, 0), (1, -2), [1, 2], (1, True), (1, 2, 3), "1/2", (True, 1))
TEXTS = (None, 0, True, (), [""], ("3",), ["3"])
SAID = LOTS + ((0, 1, 2),)
RULES = (
    None, 0, "0", [(0,)], ((0,), (0,)), ((1,), (0,)), ((0, 1, 2),), ((True,),), ((3,),), (0,), ([0],), ((1, 0),), (None,),
)
CHAINS = (
    None, 0, "end", [("end", True)], (), ("end", True), (("end", 1),), (("one", (0,), True),), (("end", True),) * 2,
    (("one", (True,), True), ("end", True)), (("two", (1,), (0,), True), ("end", True)), (["end", True],),
)
UNDER = GROUNDS + (FREE, (2, (((0,), (1,)),)), (3, (((1,), ()),)), (4, KEPT[1]), (3, (((1,), (1, 2)),)))
FOUND = (("one", (0,), False), ("end", True))
LIKES = ([(0, 1, ())], None, (), ((0, 1),), ((0, 1, (0, 1, 2)),), ((0, True, ()),), ((False, 1, ()),), ((0, 1, (True,)),))

WORDS = (None, 0, 1, "yes", "True", (), (True,), [True])
WAYS = (None, "", "fits", "Fit", True, 0, ["fit"], ("fit",), [], ())
WEIGHTS = (
    None, 3, [3, 1, 1, 3], (3, 1, 1), (3, 1, 1, 3, 1), (3, 1, 1, -1), (3, 1, True, 3), (3, 1, None, 3), "3113", (), ((3,),) * 4,
)
ANSWERS = (
    None, 0, "0", [(0,)], ((),), ((3,),), ((1,), (0,)), ((0,), (0,)), ((True,),), (0,), ([0],), ((1, 0),), ((0, 1, 2, 3),),
)
TRIPLE = ("three", (0, 1), (0, 2), (1, 2))
TRIPLES = (
    None, 0, "three", list(TRIPLE), (), TRIPLE[:3], TRIPLE + ((),), ("two",) + TRIPLE[1:], ("three", (0, 2), (0, 1), (1, 2)),
    ("three", (False, 1), (0, 2), (1, 2)), ("two", (0,), (1, 2), (0, 1)), ("three", [0, 1], (0, 2), (1, 2)),
)

WEB = ((0, 0, 3), (0, 1, 5), (1, 1, 3))
WEBS = (
    None, 0, "", list(WEB), WEB[0], WEB[::-1], WEB + WEB[2:], ((0, 0, 0),), ((0, 0, True),), ((True, 0, 1),), ([0, 0, 1],),
    ((0, 0),), ((0, -1, 1),), (None,),
)
PRICES = ((("left", 0), 3), (("left", 1), 1), (("right", 0), 0), (("right", 1), 2))
PIECES = ((1, (0, 2)), (2, (0, 3)))
NO_PIECES = (
    None, 0, "", list(PIECES), PIECES[0], ((0, (0,)),), ((True, (0,)),), ((1, ()),), ((1, (1, 0)),), ((1, (True,)),),
    ((1, [0]),), ([1, (0,)],), ((1, (0,), 2),), (((1, 1), (0,)),), ((1, (-1,)),), (None,), ((1, "0"),),
)

PLAN = ((1, (0, 2)), (2, (0, 3)), (1, (1, 3)))
LONG_PLAN = ((3, (0,)), (1, (1,)), (1, (2,)), (3, (3,)))
NO_PLAN = NO_PIECES + (
    (), PLAN[:2], PLAN + PLAN[:1], ((4, (0, 1, 2, 3)),), ((3, (0, 2)), (1, (1, 3))), ((1, (0, 2)), (2, (0, 4)), (1, (1, 3))),
    ((3, (0,)), (1, (1, 2)), (3, (3,))),
)
ROOMS = NUMBERS + (0,)
SHARES = ((1, 2), (1, 3), (1, 4), (0, 1))
NO_SHARES = (
    None, 0, "", (), list(SHARES), SHARES[:3], SHARES + SHARES[:1], ((2, 4),) + SHARES[1:], ((-1, 2),) + SHARES[1:],
    (1, 1, 1, 1), ((True, 2),) + SHARES[1:], ([1, 2],) + SHARES[1:], SHARES[:3] + ((0, 2),), SHARES[:3] + ((0, True),),
)
TIMES = (None, 1, True, "1/2", (), (2, 4), (-1, 2), (1, 0), [1, 2], (1, True), (True, 1), (0, 2), (1, -2), (1, 2, 3), (1,))
DAY = (((1, 4), (0, 2)), ((1, 4), (0, 3)), ((1, 3), (1,)))
NO_HOURS = (
    None, 0, "", list(DAY), DAY[0], ((1, (0,)),), (((0, 1), (0,)),), (((-1, 2), (0,)),), (((2, 4), (0,)),), (((1, 2), ()),),
    (((1, 2), (1, 0)),), (((1, 2), (0, 0)),), (((1, 2), (True,)),), (((True, 2), (0,)),), (((1, 2), [0]),), ([(1, 2), (0,)],),
    (((1, 2), (0,), 1),), (((1, 2), (-1,)),), (((1, 2), 0),), ((1, 2),), (None,),
)
NUMBER_SETS = (None, 0, "0", [0], (1, 0), (0, 0), (True,), (-1,), ((0,),), (None,))
PARTS = TIMES + ((3, 2), (61, 60))

STATE = (((0, 0, 0), (0, 1, 1)), (3, 0), (2, 7), 8)
STATES = (
    None, 0, (), list(STATE), STATE[:3], STATE + (8,), (list(STATE[0]),) + STATE[1:], STATE[:1] + ([3, 0],) + STATE[2:],
    STATE[:2] + ([2, 7], 8), STATE[:2] + ((7, 2), 8), STATE[:2] + ((2, 2), 8), STATE[:2] + ((2,), 8), STATE[:3] + (7,),
    STATE[:3] + (True,), STATE[:3] + (None,), STATE[:1] + ((3, True),) + STATE[2:], STATE[:1] + ((3,),) + STATE[2:],
    STATE[:2] + ((False, 7), 8), (((0, 0, 0), (0, 0, 0)),) + STATE[1:], (((0, 0, 0), (0, 1, True)),) + STATE[1:],
    STATE[:2] + ((1, 2, 7), 8), ((), (), (), -1), ((), (), (0,), 1), STATE[:1] + ((3, -1),) + STATE[2:],
)
EVENTS = (
    None, 0, "leave", (), ("leave",), ["leave", 0], ("leave", True), ("leave", -1), ("leave", 0, 0), ("leave", "0"),
    ("Leave", 0), ("come", (0, 0), 1), ("come", (0, 0, 0, 0), 1), ("come", [0, 0, 0], 1), ("come", (0, 0, True), 1),
    ("come", (0, 0, -1), 1), ("come", (0, 0, 0), -1), ("come", (0, 0, 0), False), ("come", (0, 0, 0)), ("come", 0, 1),
    ("weigh", 0), ("weigh", 0, True), ("weigh", False, 1), ("weigh", 0, 1, 1), ("weigh", -1, 1), (True, 0), (None, 0, 1),
    ("weigh", (0,), 1), (("leave", 0),),
)
LOG = (("come", (0, 0, 0), 3), ("leave", 7))
LOGS = (None, 0, "", list(LOG), LOG[0]) + tuple(LOG + (event,) for event in EVENTS)
LIVE = LiveTable(FREE, LESSON)
LIVE.do_all((("come", (0, 0, 0), 3), ("come", (0, 1, 1), 1), ("leave", 0), ("come", (1, 1, 2), 1)))
LIVES = (None, 0, "", (), LIVE.state_now(), LiveTable, Desk(FREE, LESSON), Nest(FREE, LESSON, LINE, (1,) * 4), Ground(3, ()))
NAMES = NUMBERS + (0, 3, 10 ** 12)

# For each function its fixed first argument, if it is not checked, and what else may stand and may not.
CASES = {
    "quotient_of": ((), [3, (None, True, "1", (1,), [1])], [2, (None, True, 0, False, "1", (1,))]),
    "plus": ((), [(1, 2), QUOTIENTS], [(1, 2), QUOTIENTS]),
    "minus": ((), [(1, 2), QUOTIENTS], [(1, 2), QUOTIENTS]),
    "times": ((), [(1, 2), QUOTIENTS], [(1, 2), QUOTIENTS]),
    "over": ((), [(0, 1), QUOTIENTS], [(1, 2), QUOTIENTS + ((0, 1),)]),
    "at_most": ((), [(1, 2), QUOTIENTS], [(1, 2), QUOTIENTS]),
    "rounded_up": ((), [(-1, 2), QUOTIENTS]),
    "meet_of": ((3,), [(0, 2), LOTS], [(0, 2), LOTS]),
    "union_of": ((3,), [(0, 2), LOTS], [(0, 2), LOTS]),
    "without": ((3,), [(0, 2), LOTS], [(0, 2), LOTS]),
    "is_within": ((3,), [(0, 2), LOTS], [(0, 2), LOTS]),
    "closing_of": ((FREE,), [(0,), LOTS]),
    "is_closed": ((FREE,), [(0,), LOTS]),
    "follows": ((FREE,), [(0,), LOTS], [(1,), LOTS]),
    "same_ground": ((FREE,), [KEPT, GROUNDS]),
    "with_dependence": ((FREE,), [(0,), LOTS], [(1,), LOTS]),
    "held_ground": ((FREE,), [(0,), LOTS]),
    "renamed_ground": ((FREE,), [(2, 0, 1), SEQUENCES]),
    "doubled_ground": ((FREE,), [2, NUMBERS + (3,)]),
    "likeness_of": ((FREE,), [LINE, TABLES], [1, ROWS], [0, ROWS + (1,)]),
    "likenesses": ((FREE,), [LINE, TABLES]),
    "first_unkept": ((FREE,), [LINE, TABLES + ((),)]),
    "lets_likeness": ((FREE,), [2, NUMBERS], [((0, 1, ()),), ()]),
    "table_of": ((FREE,), [2, NUMBERS], [((0, 1, ()),), LIKES]),
    "renamed_table": ((FREE,), [LINE, TABLES], [(2, 0, 1), SEQUENCES]),
    "rows_moved": ((FREE,), [LINE[:3], TABLES], [(2, 0, 1), SEQUENCES]),
    "part_of": ((FREE,), [LINE, TABLES], [(0, 3), GROUPS]),
    "holds_for": ((3,), [("same", 2), SENTENCES], [(0,), LOTS]),
    "alike_sentence": ((3,), [(0,), LOTS]),
    "same_sense": ((FREE,), [("same", 2), SENTENCES], [("same", 2), SENTENCES]),
    "sentence_line": ((3,), [("same", 2), SENTENCES]),
    "read_sentence": ((3,), ["same 2", TEXTS + ("same 2\nsame 2", "same 2\n")]),
    "read_ground": ((), ["3", TEXTS]),
    "table_text": ((FREE,), [LINE, TABLES]),
    "read_table": ((FREE,), ["0", TEXTS]),
    "says": ((FREE,), [LESSON, RULES], [(0,), SAID]),
    "opposite": ((FREE,), [LESSON, RULES]),
    "both_say": ((FREE,), [LESSON, RULES], [MUX, RULES]),
    "either_says": ((FREE,), [LESSON, RULES], [MUX, RULES]),
    "unlike_say": ((FREE,), [LESSON, RULES], [MUX, RULES]),
    "sentence_rule": ((FREE,), [("same", 2), SENTENCES]),
    "told_rule": ((FREE,), [((1,), (0, 1, 2), (1,)), (None, [(1,)], (1,), ([1],), ((3,),), ((1, 0),), ((True,),), 0)]),
    "sentence_of": ((FREE,), [LESSON, RULES]),
    "held_rule": ((FREE,), [LESSON, RULES], [(0, 1, 2), LOTS]),
    "rule_under": ((KEPT,), [((0,),), RULES + (((1,),),)], [(3, (((0,), ()), ((1,), (2,)))), UNDER]),
    "renamed_rule": ((FREE,), [LESSON, RULES], [(2, 0, 1), SEQUENCES]),
    "doubled_rule": ((FREE,), [LESSON, RULES], [2, NUMBERS + (3,)]),
    "turning_lots": ((FREE,), [LESSON, RULES], [(0,), SAID]),
    "yes_lots": ((FREE,), [LESSON, RULES]),
    "parting_lots": ((FREE,), [LESSON, RULES], [MUX, RULES]),
    "parting_table": ((FREE,), [LESSON, RULES], [MUX, RULES]),
    "clash_pairs": ((FREE,), [LESSON, RULES], [LINE, TABLES]),
    "is_quarrel": ((FREE,), [LESSON, RULES], [LINE, TABLES], [(0, 3), GROUPS]),
    "is_peace": ((FREE,), [LESSON, RULES], [LINE, TABLES], [(0, 3), GROUPS]),
    "clashing_with": ((FREE,), [LESSON, RULES], [LINE, TABLES], [3, ROWS]),
    "parts_of": ((FREE,), [LESSON, RULES], [LINE, TABLES]),
    "path_in": ((FREE,), [LESSON, RULES], [LINE, TABLES]),
    "claw_in": ((FREE,), [LESSON, RULES], [LINE, TABLES]),
    "bend_in": ((FREE,), [LESSON, RULES], [LINE, TABLES]),
    "ring_word": ((FREE,), [LESSON, RULES], [LINE, TABLES]),
    "made": ((FREE,), [MUX, RULES]),
    "states_of": ((FREE,), [FOUND, CHAINS]),
    "chain_says": ((FREE,), [FOUND, CHAINS], [(0,), SAID]),
    "chain_rule": ((FREE,), [FOUND, CHAINS]),
    "decides_at": ((FREE,), [FOUND, CHAINS], [(0,), SAID]),
    "lets_chain_of": ((FREE,), [((0,), (0, 1), (0, 2)), RULES], [FOUND, ()]),
    "exchanged": ((FREE,), [FOUND, CHAINS]),
    "chain_of": ((FREE,), [LESSON, RULES]),
    "has_chain": ((FREE,), [LESSON, RULES]),
    "next_step": ((FREE,), [PAIRS, RULES], [(0,), SAID]),
    "is_plain": ((FREE,), [FOUND, CHAINS]),
    "plain_of": ((FREE,), [FOUND, CHAINS]),
    "told_lots": ((FREE,), [PAIRS, RULES]),
    "may_trust": ((FREE,), [PAIRS, RULES], ["fit", WAYS]),
    "ways_of": ((FREE,), [PAIRS, RULES]),
    "and_alike": ((FREE,), [PAIRS, RULES], [(0, 1, 2), LOTS]),
    "or_unlike": ((FREE,), [PAIRS, RULES], [(0, 1, 2), LOTS]),
    "chain_held": ((FREE,), [MUX, RULES], [(0,), LOTS]),
    "many_turned": ((3,), [True, WORDS]),
    "chain_at": ((3,), [55, NUMBERS + (56, 10 ** 12)]),
    "number_of": ((3,), [FOUND, CHAINS + ((("one", (0,), True), ("end", True)),)]),
    "answers_of": ((3,), [PAIRS, RULES]),
    "fits_chain": ((3,), [((0,), (0, 1, 2)), ANSWERS]),
    "told_back": ((3,), [((0,), (0, 1), (0, 1, 2), (0, 2)), ANSWERS]),
    "chain_line": ((FREE,), [FOUND, CHAINS]),
    "read_chain": ((FREE,), ["end no", TEXTS]),
    "lets_triple": ((FREE,), [PAIRS, RULES], [TRIPLE, ()]),
    "triple_of": ((FREE,), [PAIRS, RULES]),
    "triple_at": ((FREE,), [PAIRS, RULES], [(), SAID + ((0,),)]),
    "ring_likes": ((FREE,), [PAIRS, RULES], [TRIPLE, TRIPLES]),
    "ring_table": ((FREE,), [PAIRS, RULES], [TRIPLE, TRIPLES]),
    "bend_table": ((FREE,), [PAIRS, RULES]),
    "path_table": ((FREE,), [PAIRS, RULES]),
    "claw_table": ((FREE,), [PAIRS, RULES]),
    "tried_load": ((FREE,), [PAIRS, RULES], [LINE, TABLES], [(3, 0, 1, 3), WEIGHTS]),
    "tried_worth": ((FREE,), [PAIRS, RULES], [LINE, TABLES], [(3, 0, 1, 3), WEIGHTS]),
    "tried_rounds": ((FREE,), [PAIRS, RULES], [LINE, TABLES]),
    "tried_cover": ((FREE,), [PAIRS, RULES], [LINE, TABLES]),
    "tried_room_rounds": ((FREE,), [PAIRS, RULES], [LINE, TABLES], [1, NUMBERS + (0,)]),
    "break_of": ((FREE,), [PAIRS, RULES], ["fit", WAYS]),
    "lets_break": ((FREE,), [LESSON, RULES], [("fit", LINE, (0, 3, 1, 2)), ()]),
    "share_break": ((FREE,), [PAIRS, RULES]),
    "too_many": ((FREE,), [PAIRS, RULES], [LINE, TABLES]),
    "ends_of": ((), [WEB, WEBS]),
    "end_sums": ((), [WEB, WEBS]),
    "fullest_end": ((), [WEB, WEBS]),
    "without_ends": ((), [WEB, WEBS], [0, NUMBERS], [10 ** 12, NUMBERS]),
    "heaviest_matching": ((), [WEB, WEBS]),
    "matching_weight": ((), [WEB, WEBS], [(0, 2), (None, [0, 2], (0, 1), (2, 0), (3,), (True,), (0, 0), "0", 0, ((0,),))]),
    "lets_matching": ((), [WEB, WEBS], [((0, 2), PRICES), ()]),
    "spots_of": ((FREE,), [LESSON, RULES], [LINE, TABLES]),
    "spot_ties": ((FREE,), [LESSON, RULES], [LINE, TABLES], [0, NUMBERS + (1, 2, 10 ** 12)]),
    "sum_of": ((), [(3, 0, 1), (None, 3, [3], (3, -1), (3, True), "30", ((3,),))], [(0, 2), GROUPS + ((3,),)]),
    "load_of": ((FREE,), [LESSON, RULES], [LINE, TABLES], [(3, 0, 1, 3), WEIGHTS]),
    "quarrel_of": ((FREE,), [LESSON, RULES], [LINE, TABLES], [(3, 0, 1, 3), WEIGHTS]),
    "worth_of": ((FREE,), [LESSON, RULES], [LINE, TABLES], [(3, 0, 1, 3), WEIGHTS]),
    "peace_of": ((FREE,), [LESSON, RULES], [LINE, TABLES], [(3, 0, 1, 3), WEIGHTS]),
    "load_through": ((FREE,), [LESSON, RULES], [LINE, TABLES], [(3, 0, 1, 3), WEIGHTS], [1, ROWS]),
    "quarrel_through": ((FREE,), [LESSON, RULES], [LINE, TABLES], [(3, 0, 1, 3), WEIGHTS], [1, ROWS]),
    "worth_through": ((FREE,), [LESSON, RULES], [LINE, TABLES], [(3, 0, 1, 3), WEIGHTS], [1, ROWS]),
    "peace_through": ((FREE,), [LESSON, RULES], [LINE, TABLES], [(3, 0, 1, 3), WEIGHTS], [1, ROWS]),
    "raising_rows": ((FREE,), [LESSON, RULES], [LINE, TABLES], [(3, 0, 1, 3), WEIGHTS]),
    "lowering_rows": ((FREE,), [LESSON, RULES], [LINE, TABLES], [(3, 0, 1, 3), WEIGHTS]),
    "spare_of": ((FREE,), [LESSON, RULES], [LINE, TABLES], [(3, 0, 1, 3), WEIGHTS], [1, ROWS]),
    "split_groups": ((FREE,), [LINE, TABLES], [(0, 1, 2), LOTS]),
    "split_loads": ((FREE,), [LESSON, RULES], [LINE, TABLES], [(3, 0, 1, 3), WEIGHTS]),
    "weight_off": ((FREE,), [LESSON, RULES], [LINE, TABLES], [(3, 0, 1, 3), WEIGHTS]),
    "dealt_ties": ((), [WEB, WEBS]),
    "priced_ties": ((), [WEB, WEBS], [PRICES, (None, (), list(PRICES), PRICES[:3], PRICES[::-1], 0, "", PRICES * 2)]),
    "pieces_length": ((), [PIECES, NO_PIECES]),
    "given_to": ((), [PIECES, NO_PIECES], [10 ** 12, NUMBERS]),
    "side_by_side": ((), [PIECES, NO_PIECES], [((5, (1,)),), NO_PIECES + (PIECES, ((1, (1, 4)), (1, (3,))))]),
    "one_behind": ((), [PIECES, NO_PIECES], [PIECES, NO_PIECES]),
    "cut_pieces": ((), [PIECES, NO_PIECES], [1, NUMBERS], [1, NUMBERS + (0,)]),
    "rounds_plan": ((FREE,), [LESSON, RULES], [LINE, TABLES], [(3, 0, 1, 3), WEIGHTS]),
    "cover_plan": ((FREE,), [LESSON, RULES], [LINE, TABLES], [(3, 0, 1, 3), WEIGHTS]),
    "plan_paper": ((FREE,), [LESSON, RULES], [LINE, TABLES], [(3, 0, 1, 3), WEIGHTS], [True, WORDS]),
    "lets_plan": ((FREE,), [LESSON, RULES], [LINE, TABLES], [(3, 1, 1, 3), WEIGHTS], [("rounds", (0, 1), PLAN), ()]),
    "web_of_rows": ((FREE,), [LESSON, RULES], [LINE, TABLES]),
    "room_formula": ((FREE,), [LESSON, RULES], [LINE, TABLES], [(3, 0, 1, 3), WEIGHTS], [1, ROOMS]),
    "room_plan": ((FREE,), [LESSON, RULES], [LINE, TABLES], [(3, 0, 1, 3), WEIGHTS], [1, ROOMS]),
    "even_plan": ((FREE,), [LESSON, RULES], [LINE, TABLES], [(3, 1, 1, 3), WEIGHTS], [4, NUMBERS + (0, 3, 9, 10 ** 12)]),
    "lets_rooms": ((FREE,), [LESSON, RULES], [LINE, TABLES], [(3, 1, 1, 3), WEIGHTS], [2, ROOMS], [PLAN, ()]),
    "kept_plan": ((FREE,), [LESSON, RULES], [LINE, TABLES], [(3, 1, 1, 3), WEIGHTS], [LONG_PLAN, NO_PLAN], [2, ROWS]),
    "first_fit": ((FREE,), [PAIRS, RULES], [LINE, TABLES], [(0, 3, 1, 2), ROW_SEQUENCES]),
    "fit_rounds": ((FREE,), [PAIRS, RULES], [LINE, TABLES], [(0, 3, 1, 2), ROW_SEQUENCES]),
    "heaviest_kept": ((FREE,), [PAIRS, RULES], [LINE, TABLES], [(3, 0, 1, 3), WEIGHTS]),
    "best_sequence": ((FREE,), [LESSON, RULES], [LINE, TABLES]),
    "hours_length": ((), [DAY, NO_HOURS]),
    "share_in": ((), [DAY, NO_HOURS], [10 ** 12, NUMBERS]),
    "standing_at": ((), [DAY, NO_HOURS], [(0, 1), TIMES]),
    "changes_of": ((), [DAY, NO_HOURS], [10 ** 12, NUMBERS]),
    "heaviest_sum": ((FREE,), [LESSON, RULES], [LINE, TABLES], [SHARES, NO_SHARES]),
    "hours_for": ((FREE,), [LESSON, RULES], [LINE, TABLES], [SHARES, NO_SHARES], [(1, 1), TIMES]),
    "lets_hours": ((FREE,), [LESSON, RULES], [LINE, TABLES], [SHARES, NO_SHARES], [(0, 1), TIMES], [("blocked", (0, 1)), ()]),
    "further_share": ((FREE,), [LESSON, RULES], [LINE, TABLES], [SHARES, NO_SHARES], [(1, 1), TIMES], [1, ROWS]),
    "barring_quarrel": ((FREE,), [LESSON, RULES], [LINE, TABLES], [SHARES, NO_SHARES], [(1, 1), TIMES], [1, ROWS]),
    "equal_more": ((FREE,), [LESSON, RULES], [LINE, TABLES + ((),)], [SHARES, NO_SHARES], [(1, 1), TIMES]),
    "lottery_of": ((FREE,), [LESSON, RULES], [LINE, TABLES], [SHARES, NO_SHARES]),
    "drawn_by": ((), [DAY, NO_HOURS + (DAY + (((1, 5), (0,)),),)], [(59, 60), TIMES + ((1, 1), (3, 2))]),
    "sureness_of": ((), [DAY + DAY, NO_HOURS], [(0, 9), NUMBER_SETS]),
    "hours_behind": ((), [DAY, NO_HOURS], [DAY, NO_HOURS]),
    "shortened": ((), [DAY, NO_HOURS], [(1, 1), PARTS]),
    "mixed_hours": ((), [DAY, NO_HOURS], [DAY, NO_HOURS], [(0, 1), PARTS]),
    "hours_without": ((), [DAY, NO_HOURS], [10 ** 12, NUMBERS]),
    "merged_hours": ((), [DAY, NO_HOURS]),
    "room_hours": (
        (FREE,), [LESSON, RULES], [LINE, TABLES], [SHARES, NO_SHARES], [2, ROOMS], [(1, 1), TIMES],
    ),
    "hours_text": ((), [DAY, NO_HOURS]),
    "read_hours": ((), ["1/4 0", TEXTS]),
    "coming_log": ((FREE,), [LINE, TABLES], [(3, 0, 1, 3), WEIGHTS]),
    "state_after": ((FREE,), [STATE, STATES], [("leave", 7), ()]),
    "state_behind": ((FREE,), [LOG[:1], LOGS]),
    "first_refused": ((FREE,), [LOG, LOGS]),
    "snapshot": ((), [LIVE, LIVES]),
    "load_now": ((), [LIVE, LIVES]),
    "worth_now": ((), [LIVE, LIVES]),
    "quarrel_now": ((), [LIVE, LIVES]),
    "peace_now": ((), [LIVE, LIVES]),
    "plan_now": ((), [LIVE, LIVES]),
    "spare_now": ((), [LIVE, LIVES], [2, NAMES]),
    "clashes_now": ((), [LIVE, LIVES], [1, NAMES]),
    "replayed": ((FREE,), [LESSON, RULES], [LOG[:1], LOGS]),
    "loads_through": ((FREE,), [LESSON, RULES], [LOG[:1], LOGS]),
    "event_line": ((FREE,), [LOG[0], EVENTS]),
    "log_text": ((FREE,), [LOG, LOGS]),
    "read_event": ((FREE,), ["leave 0", TEXTS]),
    "read_log": ((FREE,), ["", TEXTS]),
}

TABLE_NAMES = (None, 0, True, "", "b", "AB", "a b", "ab1", "a" * 13, ["ab"], ("ab",), "ab\n")


def desk_with(name):
    desk = Desk(FREE, LESSON)
    desk.open_table(name)
    desk.do(name, ("come", (0, 0, 0), 3))
    return desk


# What takes any values and refuses them by other errors, and what cannot be done twice.
ELSEWHERE = {
    "Asker.tell", "LiveTable.go", "LiveTable.come", "LiveTable.leave", "LiveTable.weigh", "LiveTable.tried", "Desk.open_table",
}

# For each class what its constructor takes, and for each method an object to ask and what it takes.
METHODS = {
    "Ground": (
        [3, NUMBERS], [(((1,), (2,)),), (None, [((1,), (2,))], ((1,), (2,)), (((1,), (3,)),), (((True,), ()),), 0)],
    ),
    "Ground.closing": (lambda: Ground(*FREE), [(0,), LOTS]),
    "Ground.keeps": (lambda: Ground(*FREE), [LINE, TABLES + ((),)]),
    "Rule": ([FREE, GROUNDS], [((1,), (0, 1, 2)), (None, [(1,)], (1,), ([1],), ((3,),), ((1, 0),), ((True,),), 0)]),
    "Rule.says": (lambda: made(FREE, MUX), [(0,), SAID]),
    "Rule.held": (lambda: made(FREE, MUX), [(0, 1, 2), LOTS]),
    "Rule.clashes": (lambda: made(FREE, MUX), [LINE, TABLES]),
    "Asker": ([3, NUMBERS],),
    "Ladder": ([FREE, GROUNDS], [PAIRS, RULES]),
    "Ladder.break_for": (lambda: Ladder(FREE, PAIRS), ["fit", WAYS]),
    "Nest": ([FREE, GROUNDS], [LESSON, RULES], [LINE, TABLES], [(3, 0, 1, 3), WEIGHTS]),
    "Nest.weigh": (lambda: Nest(FREE, LESSON, LINE, (3, 0, 1, 3)), [1, ROWS], [0, NUMBERS]),
    "Nest.through": (lambda: Nest(FREE, LESSON, LINE, (3, 0, 1, 3)), [1, ROWS]),
    "Nest.spare": (lambda: Nest(FREE, LESSON, LINE, (3, 0, 1, 3)), [1, ROWS]),
    "Planner": ([FREE, GROUNDS], [PAIRS, RULES]),
    "Planner.rounds_for": (lambda: Planner(FREE, LESSON), [LINE, TABLES], [(3, 0, 1, 3), WEIGHTS]),
    "Planner.cover_for": (lambda: Planner(FREE, LESSON), [LINE, TABLES], [(3, 0, 1, 3), WEIGHTS]),
    "Planner.rooms_for": (lambda: Planner(FREE, LESSON), [LINE, TABLES], [(3, 0, 1, 3), WEIGHTS], [1, ROOMS]),
    "Planner.fit": (lambda: Planner(FREE, PAIRS), [LINE, TABLES], [(0, 3, 1, 2), ROW_SEQUENCES]),
    "Hours": ([FREE, GROUNDS], [LESSON, RULES], [LINE, TABLES], [(1, 1), TIMES]),
    "Hours.give": (lambda: Hours(FREE, LESSON, LINE, (1, 1)), [1, ROWS], [(0, 1), TIMES]),
    "Hours.more": (lambda: Hours(FREE, LESSON, LINE, (1, 1)), [1, ROWS]),
    "Hours.stands": (lambda: Hours(FREE, LESSON, LINE, (1, 1)), [(7, 1), TIMES]),
    "LiveTable": ([FREE, GROUNDS], [LESSON, RULES]),
    "LiveTable.undo": (lambda: replayed(FREE, LESSON, LOG[:1] + (("weigh", 0, 4),)), [1, NUMBERS + (0,)]),
    "LiveTable.do_all": (lambda: LiveTable(FREE, LESSON), [(), (None, [], "", 0, list(LOG))]),
    "Desk": ([FREE, GROUNDS], [LESSON, RULES]),
    "Desk.do": (lambda: desk_with("ab"), ["ab", TABLE_NAMES], [("weigh", 0, 3), ()]),
    "Desk.snapshot_of": (lambda: desk_with("ab"), ["ab", TABLE_NAMES]),
}


class ParametersTest(unittest.TestCase):

    def refused(self, function, fixed, cases):
        words = parameters(function)
        good = [case[0] for case in cases]
        function(*fixed, *good)
        function(**dict(zip(words, [*fixed, *good])))
        worst = [case[1][0] if case[1] else None for case in cases]
        for at, (_, wrong) in enumerate(cases):
            for thing in wrong:
                for rest in (good, worst):
                    told = [*fixed, *good[:at], thing, *rest[at + 1:]]
                    self.names(words[len(fixed) + at], lambda: function(*told), thing)
                    self.names(words[len(fixed) + at], lambda: function(**dict(zip(words, told))), thing)

    def names(self, word, call, thing):
        with self.assertRaises(NotUsable, msg=(word, thing)) as caught:
            call()
        self.assertEqual((caught.exception.word, caught.exception.at), (word, -1), thing)

    def test_functions(self):
        unchecked = {
            "whole_of", "lots_of", "base_of", "closed_lots", "free_ground", "ground_text", "never_rule", "always_rule",
            "many_chains", "many_fits", "asked_lots", "many_asked",
        }
        for module, functions in FUNCTIONS.items():
            found = importlib.import_module("alikeclash." + module)
            for name in functions:
                if name in CASES:
                    fixed, *cases = CASES[name]
                    with self.subTest(name):
                        self.refused(getattr(found, name), fixed, cases)
                else:
                    self.assertTrue(name.startswith(("is_", "lets_")) or name in unchecked, name)

    def test_classes(self):
        for module, classes in CLASSES.items():
            found = importlib.import_module("alikeclash." + module)
            for name, methods in classes.items():
                with self.subTest(name):
                    self.refused(getattr(found, name), (), METHODS[name])
                for method, words in methods.items():
                    if words and method != "__init__" and f"{name}.{method}" not in ELSEWHERE:
                        made, *cases = METHODS[f"{name}.{method}"]
                        with self.subTest(name + method):
                            self.refused(getattr(made(), method), (), cases)

    def test_edges(self):
        found = importlib.import_module("alikeclash.groundmaking")
        self.names("column", lambda: found.doubled_ground(EMPTY, 0), 0)
        found = importlib.import_module("alikeclash.tables")
        self.names("table", lambda: found.likenesses(KEPT, LINE), LINE)
        self.names("table", lambda: found.likenesses(WHOLE, ((0, 0), (0, 1))), 0)
        self.names("one", lambda: found.likeness_of(FREE, (), 0, 0), 0)
        self.names("rows", lambda: found.first_unkept(EMPTY, ((), ())), 0)
        found = importlib.import_module("alikeclash.sentences")
        self.names("sentence", lambda: found.holds_for(0, ("same", 0), (0,)), 0)

    def test_no_lot_is_said_where_the_base_is_whole(self):
        rules = importlib.import_module("alikeclash.rules")
        chains = importlib.import_module("alikeclash.chains")
        finding = importlib.import_module("alikeclash.finding")
        turning = importlib.import_module("alikeclash.turning")
        for ground in (EMPTY, WHOLE):
            for lot in ((), (0,), (0, 1)):
                for function in (rules.says, turning.turning_lots, finding.next_step):
                    self.names("lot", lambda: function(ground, (), lot), lot)
                for function in (chains.chain_says, chains.decides_at):
                    self.names("lot", lambda: function(ground, (), lot), lot)
            self.names("rule", lambda: rules.says(ground, ((),), ()), 0)
            self.names("chain", lambda: chains.chain_rule(ground, (("end", True),)), 0)

    def test_lots_that_are_not_closed(self):
        rules = importlib.import_module("alikeclash.rules")
        chains = importlib.import_module("alikeclash.chains")
        finding = importlib.import_module("alikeclash.finding")
        turning = importlib.import_module("alikeclash.turning")
        for function in (rules.says, turning.turning_lots, finding.next_step):
            self.names("lot", lambda: function(KEPT, ((0,),), (1,)), 0)
            self.names("rule", lambda: function(KEPT, ((1,),), (1,)), 0)
        for function in (chains.chain_says, chains.decides_at):
            self.names("lot", lambda: function(KEPT, (("end", True),), (1,)), 0)
            self.names("chain", lambda: function(KEPT, (("one", (1,), True), ("end", True)), (1,)), 0)
        clashes = importlib.import_module("alikeclash.clashes")
        self.names("row", lambda: clashes.clashing_with(FREE, LESSON, (), 0), 0)
        self.names("table", lambda: clashes.clash_pairs(KEPT, (), LINE), 0)
        moving = importlib.import_module("alikeclash.rulemoving")
        self.names("column", lambda: moving.doubled_rule(EMPTY, (), 0), 0)


if __name__ == "__main__":
    unittest.main()
