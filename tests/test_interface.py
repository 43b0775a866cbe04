"""The names, parameters and places of all that the interface lists."""

import importlib
import inspect
import unittest

FUNCTIONS = {
    "kinds": {
        "is_integer": "thing", "is_number": "thing", "is_word": "thing", "is_quotient": "thing", "is_lot": "size thing",
        "is_dependence": "size thing", "is_group": "many thing", "is_sequence": "many thing",
        "is_weights": "many thing", "is_shares": "many thing",
    },
    "quotients": {
        "quotient_of": "top bottom", "plus": "one another", "minus": "one another", "times": "one another",
        "over": "one another", "at_most": "one another", "rounded_up": "one",
    },
    "lots": {
        "whole_of": "size", "lots_of": "size", "meet_of": "size one another", "union_of": "size one another",
        "without": "size one another", "is_within": "size one another",
    },
    "grounds": {
        "is_ground": "thing", "closing_of": "ground lot", "is_closed": "ground lot", "base_of": "ground",
        "closed_lots": "ground", "follows": "ground here there", "same_ground": "ground other",
    },
    "groundmaking": {
        "free_ground": "size", "with_dependence": "ground here there", "held_ground": "ground lot",
        "renamed_ground": "ground sequence", "doubled_ground": "ground column",
    },
    "tables": {
        "is_table": "ground thing", "likeness_of": "ground table one another", "likenesses": "ground table",
        "first_unkept": "ground rows",
    },
    "likechecker": {"lets_likeness": "ground many thing"},
    "tablemaking": {
        "table_of": "ground many likeness_list", "renamed_table": "ground table sequence",
        "rows_moved": "ground table sequence", "part_of": "ground table group",
    },
    "sentences": {
        "is_sentence": "size thing", "holds_for": "size sentence lot", "alike_sentence": "size lot",
        "same_sense": "ground sentence other_sentence",
    },
    "sentencelines": {"sentence_line": "size sentence", "read_sentence": "size text"},
    "tablelines": {
        "ground_text": "ground", "read_ground": "text", "table_text": "ground table", "read_table": "ground text",
    },
    "rules": {
        "is_rule": "ground thing", "says": "ground rule lot", "opposite": "ground rule",
        "both_say": "ground rule other_rule", "either_says": "ground rule other_rule",
        "unlike_say": "ground rule other_rule",
    },
    "rulemaking": {
        "sentence_rule": "ground sentence", "told_rule": "ground lots", "never_rule": "ground", "always_rule": "ground",
        "sentence_of": "ground rule",
    },
    "rulemoving": {
        "held_rule": "ground rule lot", "rule_under": "ground rule other", "renamed_rule": "ground rule sequence",
        "doubled_rule": "ground rule column",
    },
    "turning": {"turning_lots": "ground rule lot", "yes_lots": "ground rule"},
    "partings": {"parting_lots": "ground rule other_rule", "parting_table": "ground rule other_rule"},
    "clashes": {
        "clash_pairs": "ground rule table", "is_quarrel": "ground rule table group", "is_peace": "ground rule table group",
        "clashing_with": "ground rule table row",
    },
    "webforms": {
        "parts_of": "ground rule table", "path_in": "ground rule table", "claw_in": "ground rule table",
        "bend_in": "ground rule table", "ring_word": "ground rule table",
    },
    "ruleclasses": {"made": "ground rule"},
    "chainchecker": {"lets_chain": "ground thing", "is_chain": "ground thing"},
    "chains": {
        "states_of": "ground chain", "chain_says": "ground chain lot", "chain_rule": "ground chain",
        "decides_at": "ground chain lot", "lets_chain_of": "ground rule thing", "exchanged": "ground chain",
    },
    "finding": {"chain_of": "ground rule", "has_chain": "ground rule", "next_step": "ground rule lot"},
    "plains": {"is_plain": "ground chain", "plain_of": "ground chain"},
    "trusting": {"told_lots": "ground rule", "may_trust": "ground rule way", "ways_of": "ground rule"},
    "chainmaking": {
        "and_alike": "ground rule lot", "or_unlike": "ground rule lot", "chain_held": "ground rule lot",
    },
    "counting": {"many_chains": "size", "many_fits": "size", "many_turned": "size w"},
    "numbering": {"chain_at": "size many", "number_of": "size chain"},
    "asking": {
        "asked_lots": "size", "answers_of": "size rule", "fits_chain": "size answers", "told_back": "size answers",
        "many_asked": "size",
    },
    "chainlines": {"chain_line": "ground chain", "read_chain": "ground text"},
    "triplechecker": {"lets_triple": "ground rule thing"},
    "triples": {"triple_of": "ground rule", "triple_at": "ground rule lot"},
    "ringlikes": {"ring_likes": "ground rule triple"},
    "ringtables": {"ring_table": "ground rule triple"},
    "smalltables": {"bend_table": "ground rule", "path_table": "ground rule", "claw_table": "ground rule"},
    "tryings": {
        "tried_load": "ground rule table weights", "tried_worth": "ground rule table weights",
        "tried_rounds": "ground rule table", "tried_cover": "ground rule table",
        "tried_room_rounds": "ground rule table rooms",
    },
    "breaks": {"break_of": "ground rule way"},
    "breakchecker": {"lets_break": "ground rule thing"},
    "sharebreaks": {"share_break": "ground rule", "too_many": "ground rule table"},
    "sidewebs": {
        "is_side_web": "thing", "ends_of": "web", "end_sums": "web", "fullest_end": "web",
        "without_ends": "web left right",
    },
    "matchings": {"heaviest_matching": "web", "matching_weight": "web matching"},
    "matchchecker": {"lets_matching": "web thing"},
    "spots": {"spots_of": "ground rule table", "spot_ties": "ground rule table many"},
    "loads": {
        "sum_of": "weights group", "load_of": "ground rule table weights", "quarrel_of": "ground rule table weights",
        "worth_of": "ground rule table weights", "peace_of": "ground rule table weights",
    },
    "throughs": {
        "load_through": "ground rule table weights row", "quarrel_through": "ground rule table weights row",
        "worth_through": "ground rule table weights row", "peace_through": "ground rule table weights row",
    },
    "changing": {
        "raising_rows": "ground rule table weights", "lowering_rows": "ground rule table weights",
        "spare_of": "ground rule table weights row",
    },
    "loadsplits": {
        "split_groups": "ground table lot", "split_loads": "ground rule table weights",
        "weight_off": "ground rule table weights",
    },
    "dealing": {"dealt_ties": "web", "priced_ties": "web prices"},
    "pieces": {
        "is_pieces": "many thing", "pieces_length": "pieces_told", "given_to": "pieces_told row",
        "side_by_side": "one other", "one_behind": "one other", "cut_pieces": "pieces_told here there",
    },
    "roundplans": {"rounds_plan": "ground rule table weights", "cover_plan": "ground rule table weights"},
    "planpapers": {"plan_paper": "ground rule table weights w"},
    "planchecker": {"lets_plan": "ground rule table weights thing"},
    "formulas": {"web_of_rows": "ground rule table", "room_formula": "ground rule table weights rooms"},
    "roomplans": {
        "room_plan": "ground rule table weights rooms", "even_plan": "ground rule table weights many",
    },
    "roomchecker": {"lets_rooms": "ground rule table weights rooms thing"},
    "exchanges": {"kept_plan": "ground rule table weights pieces_told row"},
    "plays": {
        "first_fit": "ground rule table sequence", "fit_rounds": "ground rule table sequence",
        "heaviest_kept": "ground rule table weights", "best_sequence": "ground rule table",
    },
    "hourkinds": {
        "is_hours": "many thing", "hours_length": "hours_told", "share_in": "hours_told row",
        "standing_at": "hours_told moment", "changes_of": "hours_told row",
    },
    "hourplans": {"heaviest_sum": "ground rule table shares", "hours_for": "ground rule table shares time"},
    "hourchecker": {"lets_hours": "ground rule table shares time thing"},
    "further": {
        "further_share": "ground rule table shares time row", "barring_quarrel": "ground rule table shares time row",
    },
    "equalmore": {"equal_more": "ground rule table shares time"},
    "lotteries": {
        "lottery_of": "ground rule table shares", "drawn_by": "hours_told number", "sureness_of": "hours_told group",
    },
    "hourjoins": {
        "hours_behind": "one other", "shortened": "hours_told part", "mixed_hours": "one other part",
        "hours_without": "hours_told row", "merged_hours": "hours_told",
    },
    "roomhours": {"room_hours": "ground rule table shares rooms time"},
    "hourlines": {"hours_text": "hours_told", "read_hours": "text"},
    "liveevents": {"is_event": "ground thing", "is_log": "ground thing", "coming_log": "ground table weights"},
    "livestates": {
        "is_state": "ground thing", "state_after": "ground state event", "state_behind": "ground log",
        "first_refused": "ground log",
    },
    "liveasks": {
        "snapshot": "live", "load_now": "live", "worth_now": "live", "quarrel_now": "live", "peace_now": "live",
        "plan_now": "live", "spare_now": "live name", "clashes_now": "live name",
    },
    "replaying": {"replayed": "ground rule log", "loads_through": "ground rule log"},
    "eventlines": {"event_line": "ground event", "log_text": "ground log"},
    "eventreadings": {"read_event": "ground text", "read_log": "ground text"},
}

CLASSES = {
    "groundclasses": {
        "Ground": {"__init__": "size dependences", "closing": "lot", "closed": "", "keeps": "rows", "text": ""},
    },
    "ruleclasses": {
        "Rule": {
            "__init__": "ground lots", "says": "lot", "yes": "", "opposite": "", "held": "lot", "clashes": "table",
        },
    },
    "askclasses": {
        "Asker": {"__init__": "size", "open_lots": "", "tell": "lot w", "told": "", "next_lot": "", "finish": ""},
    },
    "breakclasses": {"Ladder": {"__init__": "ground rule", "trusted": "", "break_for": "way", "says": ""}},
    "nestclasses": {
        "Nest": {
            "__init__": "ground rule table weights", "load_now": "", "worth_now": "", "quarrel": "", "peace": "",
            "weigh": "row many", "through": "row", "spare": "row",
        },
    },
    "planclasses": {
        "Planner": {
            "__init__": "ground rule", "rounds_for": "table weights", "cover_for": "table weights",
            "rooms_for": "table weights rooms", "fit": "table sequence",
        },
    },
    "hourclasses": {
        "Hours": {
            "__init__": "ground rule table time", "give": "row share", "more": "row", "given_now": "", "plan": "",
            "stands": "moment",
        },
    },
    "live": {
        "LiveTable": {
            "__init__": "ground rule", "go": "event", "come": "row weight", "leave": "name", "weigh": "name weight",
            "names_now": "", "table_now": "", "weights_now": "", "state_now": "", "about": "", "tried": "event",
            "undo": "steps", "do_all": "events", "log": "", "tally": "",
        },
    },
    "desks": {
        "Desk": {
            "__init__": "ground rule", "open_table": "name", "do": "name event", "snapshot_of": "name", "names": "",
            "loads": "", "heaviest_name": "", "report": "",
        },
    },
}


def parameters(function):
    return list(inspect.signature(function).parameters)


class InterfaceTest(unittest.TestCase):

    def test_functions(self):
        for module, functions in FUNCTIONS.items():
            found = importlib.import_module("alikeclash." + module)
            for name, words in functions.items():
                function = getattr(found, name)
                self.assertEqual(parameters(function), words.split(), name)
                self.assertEqual(function.__module__, "alikeclash." + module, name)
                self.assertTrue(inspect.isfunction(function), name)

    def test_classes(self):
        for module, classes in CLASSES.items():
            found = importlib.import_module("alikeclash." + module)
            for name, methods in classes.items():
                made = getattr(found, name)
                self.assertEqual(made.__module__, "alikeclash." + module, name)
                for method, words in methods.items():
                    self.assertEqual(parameters(vars(made)[method]), ["self"] + words.split(), method)


if __name__ == "__main__":
    unittest.main()
