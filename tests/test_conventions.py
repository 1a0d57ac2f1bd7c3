"""Points [2] and [3], as they hold for all functions: bools, tuples for lists, new results, calls by name."""

import copy
import unittest

from netkeep import (
    answers, code, copies, explained, filled, joints, loads, log, lots, net, parts, plans, plays, questions, registers,
    rules, sayings, secrets, stocks, texts, told, twins, upkeep, vows, weaving, within,
)
from netkeep.kinds import Kind
from netkeep.lots import Lot
from netkeep.parts import Scene
from netkeep.questions import Question
from netkeep.sayings import Saying
from netkeep.stocks import Wish
from netkeep.store import Store
from netkeep.weaving import Sessions
from support import Case

STORE = Store(4, [(0, "a", 1), (0, "a", 2), (1, "b", 3), (2, "b", 3), (3, "c", 0)])
QUESTION = Question(3, [(0, "a", 1), (1, "A", 0), (1, "b", 2)], [2])
LOT = Lot(["ab", "b"])
TURNS = [("ab", "d"), ("dc", "a")]
SMALL = Question(2, [(0, "a", 1)], [1])
TIE = (0, "d", 3)
THREE = Lot(["bc", "b", "ab"])
APART = upkeep.apart(Lot(["ab"]), "a")
WHETHER = {"ab": [(0, 0)], "b": [], "bc": [(0, 1)]}
MANY = {"ab": [[0, 1], [1, 0]], "b": [[0, 1], [1, 0]], "bc": [[0, 1], [0, 0]]}
PRICES = {"ab": 1, "b": 0}
WORTH = {"b": 0, "a": 1, "ab": 1}
WISH = Wish(["ab"], "b", ["aa"])
LOOSE = (0, "a", 1)
STOP, DOOR = ("stop", "go", 1), ("door", "go", 0, "go")
SCENE = Scene(Store(2, [LOOSE]), [LOOSE], {"go": [("strike", LOOSE), ("put", LOOSE)], "add": [("put", LOOSE)]},
              [STOP, DOOR, ("change", "add", 1, ("strike", LOOSE))], [("aa", "a")])
VOW = [("a", (0, 1), True)]
COSTS = {STOP: 1, DOOR: 0, "go": 1, "add": 0, ("change", "add", 1, ("strike", LOOSE)): 1}
PLAY = [("go", [("door", ("go", ["next", "stop"])), "next", "stop"])]
RECORD = vows.record(SCENE)
TREE = plays.tree_against(SCENE, VOW, COSTS, 1, "rest")
SESSIONS = Sessions(2, [[("ask", "a"), ("strike", (1, "b", 0)), ("ask", "b")], [("put", LOOSE)]])
WOVEN = Sessions(2, [[("ask", "a"), ("ask", "a")], [("put", LOOSE), ("strike", LOOSE)]])
MISSES = explained.misses(WOVEN, (0, 1, 0, 1))
JOINT_COSTS = {(0, 0): 1, (1, 0): 1}
WINS, ODD = Kind.strike_wins(), Kind([[1], [0]], [False, True])
SAY = Saying(("then", "a", ("perhaps", "B")))
CODE = code.Code([("load", 0, "a"), ("load", 1, "B"), ("perhaps", 1, 1), ("then", 0, 0, 1)])
PLAN = code.Code([("keep", 0, "ab"), ("keep", 1, "b"), ("back", 0, 0, 1), ("keep", 1, "bc"), ("then", 0, 0, 1)])
FARES = {"back": 3, "keep": 1, "then": 2}
LOG = log.Log(["put", ("ask", "tie")])
COMMANDS = ["keep ab", "keep b", ("put 0 a 1", "hide c"), "grant ann ab", "rule ab c", "undo"]
NET = net.Net(Store(2), "whether", COMMANDS)
CALLS = [
    (answers.pairs, {"store": STORE, "word": "ab"}),
    (answers.counts, {"store": STORE, "word": "ab"}),
    (answers.answer, {"store": STORE, "word": "ab", "telling": "many"}),
    (answers.walk, {"store": STORE, "word": "ab", "start": 0, "end": 3}),
    (answers.is_walk, {"store": STORE, "word": "ab", "value": [0, 1, 3]}),
    (answers.many_walks, {"store": STORE, "word": "ab", "start": 0, "end": 3}),
    (answers.is_relation, {"nodes": 2, "value": [(0, 1)]}),
    (answers.is_matrix, {"nodes": 2, "value": [[0, 1], [1, 0]]}),
    (answers.product, {"nodes": 2, "one": [(0, 1)], "other": [(1, 0), (1, 1)]}),
    (answers.back, {"nodes": 2, "one": [(0, 1)], "other": [(1, 0), (1, 1)]}),
    (answers.is_within, {"nodes": 2, "one": [(0, 1)], "other": [(0, 1), (1, 1)]}),
    (answers.count_product, {"nodes": 2, "one": [[0, 1], [1, 0]], "other": [[0, 1], [1, 2]]}),
    (answers.unit, {"nodes": 3, "telling": "many"}),
    (questions.asked, {"store": STORE, "question": QUESTION}),
    (questions.reason, {"store": STORE, "question": QUESTION, "start": 0, "end": 3}),
    (questions.is_reason, {"store": STORE, "question": QUESTION, "start": 0, "end": 3,
                           "value": [(0, 0), (1, 1), (3, 2)]}),
    (questions.denial, {"store": STORE, "question": QUESTION, "start": 1, "end": 3}),
    (questions.is_denial, {"store": STORE, "question": QUESTION, "start": 1, "end": 3, "value": [(1, 0)]}),
    (questions.row_of, {"signs": "aAb"}),
    (within.reach_behind, {"question": QUESTION, "signs": "ab"}),
    (within.rounds_behind, {"question": QUESTION, "signs": "aA"}),
    (within.lies_within, {"one": QUESTION, "other": QUESTION}),
    (within.cover, {"one": QUESTION, "other": QUESTION}),
    (within.is_cover, {"one": SMALL, "other": SMALL, "value": [(0, (0,), ((0, 0), (1, 1))), (1, (1,), ((0, 0), (1, 1)))]}),
    (within.parting, {"one": QUESTION, "other": SMALL}),
    (within.is_parting, {"one": QUESTION, "other": SMALL, "value": "ab"}),
    (within.how_many_triples, {"one": QUESTION, "other": SMALL}),
    (within.are_alike, {"one": QUESTION, "other": SMALL}),
    (within.needless, {"question": Question(3, [(0, "a", 1), (0, "a", 2)], [1, 2])}),
    (within.pared, {"question": QUESTION}),
    (filled.obeys, {"store": STORE, "rules": TURNS}),
    (filled.wanted, {"store": STORE, "rules": TURNS}),
    (filled.filled, {"store": STORE, "rules": TURNS}),
    (filled.put_in, {"store": STORE, "rules": TURNS, "tie": (3, "b", 1)}),
    (filled.rounds, {"store": STORE, "rules": TURNS}),
    (filled.round_of, {"store": STORE, "rules": TURNS, "tie": TIE}),
    (filled.trace, {"store": STORE, "rules": TURNS, "tie": TIE}),
    (filled.is_trace, {"store": STORE, "rules": TURNS, "tie": TIE,
                       "value": [((0, "a", 1), []), ((1, "b", 3), []), (TIE, [0, 1])]}),
    (filled.is_denial, {"store": STORE, "rules": [], "tie": TIE, "value": STORE}),
    (filled.strikes, {"store": STORE, "rules": TURNS, "tie": TIE}),
    (filled.strike_tree, {"store": STORE, "rules": TURNS, "tie": TIE, "number": 1}),
    (filled.is_strike_tree, {"store": STORE, "rules": TURNS, "tie": TIE, "number": 0,
                             "value": ([((0, "a", 1), []), ((1, "b", 3), []), (TIE, [0, 1])], {})}),
    (rules.is_rule, {"value": ("ab", "c")}),
    (rules.leads, {"rules": TURNS, "word": "abc", "aim": "a"}),
    (rules.leads_paper, {"rules": TURNS, "word": "abc", "aim": "a"}),
    (rules.is_leads_paper, {"rules": TURNS, "word": "a", "aim": "a", "value": ([((0, "a", 1), [])], [0])}),
    (rules.against, {"rules": TURNS, "word": "abc", "aim": "b"}),
    (rules.is_against, {"rules": TURNS, "word": "a", "aim": "b", "value": (Store.row("a"), (0, 1))}),
    (rules.words_from, {"rules": TURNS, "word": "abc"}),
    (rules.shortest, {"rules": TURNS, "word": "abc"}),
    (rules.is_implied, {"rules": TURNS, "rule": ("abc", "a")}),
    (rules.needless, {"rules": TURNS}),
    (rules.fewest_rules, {"rules": TURNS}),
    (rules.are_alike, {"rules": TURNS, "others": TURNS}),
    (rules.parting_store, {"rules": TURNS, "others": TURNS[:1]}),
    (rules.is_parting_store, {"rules": TURNS, "others": TURNS[:1], "value": Store(3, [(0, "d", 1), (1, "c", 2)])}),
    (lots.kept_of, {"store": STORE, "lot": LOT, "telling": "many"}),
    (lots.is_kept, {"lot": LOT, "nodes": 1, "value": {"b": [], "ab": []}, "telling": "whether"}),
    (plans.bridges, {"lot": THREE, "word": "abc"}),
    (plans.classes, {"lot": LOT, "word": "abc"}),
    (plans.steps_at, {"lot": THREE, "word": "abc", "place": 1}),
    (plans.is_settled, {"lot": THREE, "word": "abc"}),
    (plans.plan, {"lot": THREE, "word": "abc"}),
    (plans.is_plan, {"lot": THREE, "word": "abc", "value": [(0, "ab", 2), (2, "b", 1), (1, "bc", 3)]}),
    (plans.cut, {"lot": LOT, "word": "abc"}),
    (plans.greatest_cut, {"lot": LOT, "word": "abc"}),
    (plans.is_cut, {"lot": LOT, "word": "abc", "value": [0, 1, 2]}),
    (told.told, {"lot": THREE, "word": "abc", "nodes": 2, "kept": MANY, "telling": "many"}),
    (told.told, {"lot": THREE, "word": "abc", "nodes": 2, "kept": WHETHER, "telling": "whether"}),
    (told.tables, {"lot": THREE, "word": "abc", "nodes": 2, "kept": WHETHER}),
    (told.count_paper, {"lot": THREE, "word": "abc", "nodes": 2, "kept": MANY}),
    (told.is_count_paper, {"lot": THREE, "word": "abc", "nodes": 2, "kept": MANY,
                           "value": told.count_paper(THREE, "abc", 2, MANY)}),
    (twins.twins, {"lot": LOT, "word": "abc", "cut": [0, 1, 2]}),
    (twins.is_parting, {"lot": LOT, "word": "abc", "value": twins.twins(LOT, "abc"), "telling": "many"}),
    (twins.first_apart, {"one": STORE, "other": Store(4), "word": "a", "telling": "whether"}),
    (twins.unlike_words, {"lot": LOT, "one": STORE, "other": Store(4), "telling": "whether"}),
    (upkeep.stretches, {"word": "aab", "letter": "a"}),
    (upkeep.choices, {"word": "aab", "letter": "a"}),
    (upkeep.part, {"word": "ab", "places": [0], "tie": (0, "a", 1), "nodes": 2, "telling": "whether",
                   "answers": {"b": [(0, 1), (1, 1)]}}),
    (upkeep.part, {"word": "ab", "places": [0], "tie": (0, "a", 1), "nodes": 2, "telling": "many",
                   "answers": {"b": [[0, 1], [1, 1]]}}),
    (upkeep.keeps_up, {"lot": LOT, "letter": "a"}),
    (upkeep.kept_letters, {"lot": LOT}),
    (upkeep.first_gap, {"lot": LOT, "letter": "b"}),
    (upkeep.unsettled, {"lot": LOT, "letter": "b"}),
    (upkeep.plans_paper, {"lot": LOT, "letter": "a"}),
    (upkeep.is_plans_paper, {"lot": LOT, "letter": "a", "value": {"b": [(0, "b", 1)]}}),
    (upkeep.behind_put, {"lot": LOT, "nodes": 2, "kept": {"ab": [(0, 1)], "b": [(1, 1)]}, "telling": "whether",
                         "tie": (0, "a", 1), "done": True}),
    (upkeep.behind_put, {"lot": LOT, "nodes": 2, "kept": {"ab": [[0, 1], [1, 0]], "b": [[0, 1], [1, 0]]},
                         "telling": "many", "tie": (0, "a", 1), "done": False}),
    (upkeep.behind_strike, {"lot": LOT, "nodes": 2, "kept": {"ab": [[1, 1], [1, 0]], "b": [[0, 1], [1, 0]]},
                            "tie": (0, "a", 1), "done": True}),
    (upkeep.apart, {"lot": LOT, "letter": "b"}),
    (upkeep.is_apart, {"lot": Lot(["ab"]), "letter": "a", "telling": "many", "value": APART}),
    (secrets.gives_away, {"lot": THREE, "secret": "abc"}),
    (secrets.hidden, {"lot": THREE, "secrets": ["abc", "c"]}),
    (secrets.is_withholding, {"lot": THREE, "prices": PRICES, "secrets": ["abc"], "value": ["b"]}),
    (secrets.least_withholdings, {"lot": THREE, "prices": PRICES, "secrets": ["abc"]}),
    (secrets.cheapest_withholding, {"lot": THREE, "prices": PRICES, "secrets": ["abc"]}),
    (secrets.price_of_hiding, {"lot": THREE, "prices": PRICES, "secrets": ["abc"]}),
    (secrets.tree_of_plans, {"lot": THREE, "prices": PRICES, "secrets": ["abc", "ab", "b"], "number": 0}),
    (secrets.is_tree_of_plans, {"lot": THREE, "prices": PRICES, "secrets": ["abc", "ab", "b"], "number": 0,
                                "value": (1, [(0, "ab", 2)], [])}),
    (stocks.stocks, {"prices": WORTH, "wish": WISH}),
    (stocks.is_stock, {"prices": WORTH, "wish": Wish(["ab"], "b"), "value": Lot(["a", "b"])}),
    (stocks.cheapest_stock, {"prices": WORTH, "wish": WISH}),
    (stocks.price_of_stock, {"prices": WORTH, "wish": WISH}),
    (stocks.reason, {"prices": WORTH, "wish": WISH, "lot": Lot(["ab"])}),
    (stocks.tree_of_reasons, {"prices": WORTH, "wish": WISH, "number": 0}),
    (stocks.is_tree_of_reasons, {"prices": WORTH, "wish": WISH, "number": 0,
                                 "value": ("word", "a", ("dear",), ("word", "ab", ("dear",), ("cut", "ab", [0])))}),
    (parts.changed, {"scene": SCENE, "state": (1,), "change": ("strike", LOOSE)}),
    (parts.wanted, {"scene": SCENE, "state": (0,)}),
    (parts.duty_way, {"scene": SCENE, "state": (0,)}),
    (parts.rest_of, {"scene": SCENE, "state": (0,)}),
    (parts.outcomes, {"scene": SCENE, "deed": "go", "state": (1,)}),
    (vows.holds, {"scene": SCENE, "state": (1,), "vow": VOW}),
    (vows.record, {"scene": SCENE}),
    (vows.is_record, {"scene": SCENE, "value": RECORD}),
    (vows.shows, {"scene": SCENE, "value": RECORD, "vow": [("b", (0, 1), False)], "looks": "rest"}),
    (vows.is_kept, {"scene": SCENE, "vow": VOW, "looks": "rest"}),
    (vows.seen, {"scene": SCENE, "looks": "rest"}),
    (plays.is_play, {"scene": SCENE, "value": PLAY}),
    (plays.looked, {"scene": SCENE, "play": PLAY, "looks": "all"}),
    (plays.breaks, {"scene": SCENE, "play": PLAY, "vow": VOW, "looks": "rest"}),
    (plays.cost, {"scene": SCENE, "play": PLAY, "prices": COSTS}),
    (plays.cheapest_play, {"scene": SCENE, "vow": VOW, "prices": COSTS, "looks": "rest"}),
    (plays.least_cost, {"scene": SCENE, "vow": VOW, "prices": COSTS, "looks": "rest"}),
    (plays.cheapest_seals, {"scene": SCENE, "vow": VOW, "prices": COSTS, "looks": "rest"}),
    (plays.tree_against, {"scene": SCENE, "vow": VOW, "prices": COSTS, "number": 1, "looks": "rest"}),
    (plays.is_tree_against, {"scene": SCENE, "vow": VOW, "prices": COSTS, "number": 1, "value": TREE, "looks": "rest"}),
    (weaving.weavings, {"sessions": SESSIONS}),
    (weaving.is_weaving, {"sessions": SESSIONS, "value": [0, 1, 0, 0]}),
    (weaving.weaving_of, {"sessions": SESSIONS, "order": [1, 0]}),
    (weaving.marks, {"sessions": SESSIONS, "weaving": [0, 1, 0, 0], "spot": (0, 2)}),
    (weaving.heard, {"sessions": SESSIONS, "store": STORE, "weaving": [0, 1, 0, 0]}),
    (weaving.behind, {"sessions": SESSIONS, "store": STORE, "weaving": [0, 1, 0, 0]}),
    (Scene, {"store": Store(2), "loose": [LOOSE], "deeds": {"go": [("put", LOOSE)]}, "powers": [("stop", "go", 0)],
             "rules": [("a", "b")], "duty": True}),
    (Wish, {"questions": ["ab"], "letters": "a", "secrets": ["b"]}),
    (Sessions, {"nodes": 2, "programs": [[("put", (0, "a", 1)), ("ask", "a")], [("ask", "b")]]}),
    (explained.explains, {"sessions": WOVEN, "weaving": [0, 0, 1, 1], "order": [0, 1]}),
    (explained.explains_in, {"sessions": WOVEN, "store": STORE, "weaving": [0, 1, 0, 1], "order": [1, 0]}),
    (explained.order_for, {"sessions": WOVEN, "weaving": [0, 1, 1, 0]}),
    (explained.miss, {"sessions": WOVEN, "weaving": [0, 1, 0, 1], "order": [1, 0]}),
    (explained.misses, {"sessions": WOVEN, "weaving": [0, 1, 0, 1]}),
    (explained.is_miss, {"sessions": WOVEN, "weaving": [0, 1, 0, 1], "order": [1, 0], "value": MISSES[1, 0]}),
    (explained.is_misses, {"sessions": WOVEN, "weaving": [0, 1, 0, 1], "value": MISSES}),
    (explained.everywhere, {"sessions": WOVEN, "weaving": [0, 0, 1, 1]}),
    (explained.against_all, {"sessions": WOVEN, "weaving": [0, 1, 0, 1]}),
    (explained.is_against_all, {"sessions": WOVEN, "weaving": [0, 1, 0, 1], "value": Store(2)}),
    (explained.first_missed, {"sessions": WOVEN}),
    (explained.how_many_missed, {"sessions": WOVEN}),
    (explained.order_table, {"sessions": Sessions(2, [[("ask", "a")], [("put", LOOSE)]])}),
    (joints.joints, {"sessions": WOVEN}),
    (joints.keeps, {"sessions": WOVEN, "weaving": [0, 1, 1, 0], "some": [(1, 0)]}),
    (joints.are_enough, {"sessions": WOVEN, "some": [(0, 0), (1, 0)]}),
    (joints.least_joints, {"sessions": WOVEN}),
    (joints.cheapest_joints, {"sessions": WOVEN, "prices": JOINT_COSTS}),
    (joints.tree_of_misses, {"sessions": WOVEN, "prices": JOINT_COSTS, "number": 1}),
    (joints.is_tree_of_misses, {"sessions": WOVEN, "prices": JOINT_COSTS, "number": 1,
                                "value": joints.tree_of_misses(WOVEN, JOINT_COSTS, 1)}),
    (copies.agrees, {"kind": WINS}),
    (copies.bears_repeats, {"kind": ODD}),
    (copies.looks, {"kind": WINS}),
    (copies.repeat_looks, {"kind": WINS}),
    (copies.shows_agreement, {"kind": WINS, "value": [0, 1, 2]}),
    (copies.shows_repeats, {"kind": WINS, "value": [0, 1, 2]}),
    (copies.clash, {"kind": Kind.last()}),
    (copies.echo, {"kind": ODD}),
    (copies.is_clash, {"kind": Kind.last(), "value": ([1, 0], 0, 1, [])}),
    (copies.is_echo, {"kind": ODD, "value": ([0], 0, [0])}),
    (copies.greatest_together, {"kind": Kind.last()}),
    (copies.copy_behind, {"kind": WINS, "nodes": 2, "some": [(0, (0, "a", 1)), (1, (1, "a", 1))]}),
    (Kind, {"table": [[1, 0], [1, 1]], "counting": [True, False]}),
    (WINS.table, {}),
    (WINS.counting, {}),
    (WINS.mark, {"deeds": [0, 1]}),
    (WINS.does_count, {"deeds": [0]}),
    (WINS.least, {}),
    (WINS.only, {"deeds": [1, 0]}),
    (WINS.__and__, {"other": WINS}),
    (WINS.__or__, {"other": Kind.last()}),
    (Saying, {"tree": ("then", "a", ("again", "B"))}),
    (Saying.of, {"word": "abc"}),
    (Saying.read, {"text": "(a then (again B))"}),
    (SAY.leaves, {}),
    (SAY.again, {}),
    (SAY.perhaps, {}),
    (SAY.__invert__, {}),
    (sayings.said, {"store": STORE, "saying": SAY}),
    (sayings.question_of, {"saying": SAY}),
    (sayings.says_within, {"one": Saying("a"), "other": SAY}),
    (sayings.says_alike, {"one": SAY, "other": SAY}),
    (sayings.says_apart, {"one": SAY, "other": Saying("a")}),
    (code.Code, {"lines": [("load", 0, "a"), ("then", 1, 0, 0), ("perhaps", 1, 1)]}),
    (CODE.__add__, {"other": ("or", 0, 1, 1)}),
    (CODE.__getitem__, {"at": 1}),
    (CODE.lines, {}),
    (code.run, {"code": CODE, "store": STORE}),
    (code.run_kept, {"code": PLAN, "nodes": 2, "kept": {"ab": [(0, 0)], "b": [], "bc": [(0, 1)]}}),
    (code.is_run, {"code": CODE, "store": Store(2, [(0, "a", 1)]), "value": [[(0, 1)], [], [(0, 0), (1, 1)], [(0, 1)]]}),
    (code.stands_for, {"code": CODE}),
    (code.tell_alike, {"one": CODE, "other": CODE}),
    (registers.numbers, {"saying": SAY}),
    (registers.number_of, {"saying": SAY}),
    (registers.code_of, {"saying": SAY}),
    (registers.is_code_of, {"saying": SAY, "value": CODE}),
    (registers.in_use, {"code": CODE}),
    (registers.fewest_registers, {"code": CODE}),
    (registers.fullest, {"code": CODE}),
    (registers.packed, {"code": CODE}),
    (loads.places, {"code": PLAN, "word": "abc"}),
    (loads.is_sure, {"code": PLAN, "word": "abc"}),
    (loads.price, {"code": PLAN, "fares": FARES}),
    (loads.code_of_plan, {"lot": THREE, "word": "abc"}),
    (loads.is_code_of_plan, {"lot": THREE, "word": "abc", "value": PLAN}),
    (loads.cheapest_price, {"lot": THREE, "word": "abc", "fares": FARES}),
    (loads.cheapest_code, {"lot": THREE, "word": "abc", "fares": FARES}),
    (loads.price_ranks, {"lot": THREE, "word": "abc", "fares": FARES, "number": 1}),
    (loads.are_price_ranks, {"lot": THREE, "word": "abc", "fares": FARES, "number": 1, "value": [0, 7, 3, 10]}),
    (texts.text_of, {"entry": STORE}),
    (texts.text_of, {"entry": WINS}),
    (texts.rules_text, {"rules": TURNS}),
    (texts.read_store, {"text": "store 2\ntie 0 a 1\n"}),
    (texts.read_question, {"text": "question 2 1\nstep 0 a 1\n"}),
    (texts.read_rules, {"text": "rules\nrule a b\n"}),
    (texts.read_lot, {"text": "lot a b\n"}),
    (texts.read_kind, {"text": "kind 1\ngone 0\n"}),
    (log.is_command_line, {"value": "put"}),
    (log.check_of, {"line": "put"}),
    (log.bytes_of, {"log": LOG}),
    (log.Log, {"entries": ["put", ("ask", "tie")]}),
    (log.Log.read, {"text": LOG.text()}),
    (log.Log.torn, {"text": LOG.text()[:-1]}),
    (LOG.entries, {}),
    (LOG.lines, {}),
    (LOG.first, {"many": 1}),
    (LOG.parted, {"mark": "tie"}),
    (LOG.__add__, {"other": ("sum",)}),
    (LOG.__contains__, {"x": "ask"}),
    (net.Net, {"store": Store(2), "telling": "many", "log": COMMANDS}),
    (net.Net.torn, {"store": Store(2), "text": NET.log().text(), "telling": "many"}),
    (NET.rules, {}),
    (NET.tables, {}),
    (NET.readers, {}),
    (NET.secrets, {}),
    (NET.log, {}),
    (NET.copy, {}),
    (NET.do, {"command": "told ab"}),
    (NET.__call__, {"command": "ask ann ab"}),
    (SCENE.body, {"deed": "go"}),
    (SCENE.store_at, {"state": (0,)}),
    (SCENE.__add__, {"other": [STOP, ("stop", "go", 0)]}),
    (SCENE.__sub__, {"other": [STOP]}),
    (WISH.is_granted, {"lot": LOT}),
]
LIST_PARAMETERS = ("value", "rules", "others", "one", "other", "kept", "places", "answers", "secrets", "cut", "loose",
                   "powers", "questions", "programs", "vow", "play", "weaving", "order", "deeds", "some", "table",
                   "counting", "lines", "kept")


def spoiled(value):
    """A value with True and False for each 1 and 0 in it, and whether there were any."""
    if type(value) is int and value in (0, 1):
        return bool(value)
    if type(value) in (list, tuple):
        return type(value)(spoiled(part) for part in value)
    if type(value) is dict:
        return {spoiled(key): spoiled(value[key]) for key in value}
    return value


def as_tuples(value):
    """A value with tuples for all lists in it."""
    if type(value) in (list, tuple):
        return tuple(as_tuples(part) for part in value)
    if type(value) is dict:
        return {key: as_tuples(value[key]) for key in value}
    return value


def shown(value):
    """What a value looks like, kinds of values included."""
    if isinstance(value, net.Net):
        told = (value.store, value.telling, value.rules(), value.tables(), value.late, value.readers(), value.secrets())
        return f"Net({shown(told)}, {value.changes}, {value.log()})"
    if isinstance(value, Scene):
        parts = (value.store, value.loose(), [(deed, value.body(deed)) for deed in value.deeds()], value.powers())
        return repr(("Scene", *parts, value.rules(), value.duty))
    if type(value) in (list, tuple):
        return f"{type(value).__name__}({', '.join(map(shown, value))})"
    if type(value) is dict:
        return f"dict({', '.join(f'{shown(key)}: {shown(value[key])}' for key in value)})"
    return repr(value)


def containers(value):
    """All lists and dicts in a value."""
    if type(value) in (list, dict):
        yield value
    parts = value.values() if type(value) is dict else value if type(value) in (list, tuple) else ()
    for part in parts:
        yield from containers(part)


class Conventions(Case):
    def test_by_name_and_by_position_and_again(self):
        for call, told in CALLS:
            first = shown(call(**told))
            self.assertEqual(shown(call(*told.values())), first, call)
            self.assertEqual(shown(call(**told)), first, call)

    def test_judges_accept_the_papers_above(self):
        for call, told in CALLS:
            if "value" in told:
                self.is_bool(True, call(**told))

    def test_nothing_that_is_passed_is_changed(self):
        for call, told in CALLS:
            before = shown(copy.deepcopy(told))
            call(**told)
            self.assertEqual(shown(told), before, call)

    def test_tuples_for_lists(self):
        for call, told in CALLS:
            some = {name: as_tuples(value) if name in LIST_PARAMETERS else value for name, value in told.items()}
            self.assertEqual(shown(call(**some)), shown(call(**told)), call)

    def test_true_and_false_are_no_integers(self):
        for call, told in CALLS:
            for name, value in told.items():
                if shown(spoiled(value)) == shown(value):
                    continue
                some = {**told, name: spoiled(value)}
                if name == "value":
                    self.is_bool(False, call(**some))
                else:
                    if name not in ("done", "vow", "counting"):
                        with self.assertRaises((ValueError, LookupError)):
                            call(**some)

    def test_results_are_new(self):
        for call, told in CALLS:
            first, second = call(**told), call(**told)
            old = {id(part) for part in containers(first)} | {id(part) for part in containers(list(told.values()))}
            for part in containers(second):
                self.assertNotIn(id(part), old, call)
            if call is not filled.strike_tree:
                self.assertEqual(len({id(part) for part in containers(first)}), len(list(containers(first))), call)

    def test_words_of_the_same_length_as_python_compares_them(self):
        self.assertEqual(Lot(["ba", "c", "ab"]).words(), ["c", "ab", "ba"])
        self.assertEqual(Question(2, [(0, "a", 1), (0, "B", 1)], [1]).signs(), "Ba")


if __name__ == "__main__":
    unittest.main()
