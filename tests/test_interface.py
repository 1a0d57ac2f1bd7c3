"""That all names, parameters and methods of the interface are where the document lists them."""

import ast
import importlib
import inspect
import os
import unittest

import netkeep

FUNCTIONS = {
    "words": "is_integer(value) is_count(value) is_letter(value) is_word(value) in_sequence(words)",
    "answers": """pairs(store,word) counts(store,word) answer(store,word,telling) walk(store,word,start,end)
        is_walk(store,word,value) many_walks(store,word,start,end) is_relation(nodes,value) is_matrix(nodes,value)
        product(nodes,one,other) back(nodes,one,other) is_within(nodes,one,other) count_product(nodes,one,other)
        unit(nodes,telling)""",
    "questions": """asked(store,question) reason(store,question,start,end) is_reason(store,question,start,end,value)
        denial(store,question,start,end) is_denial(store,question,start,end,value) row_of(signs)""",
    "within": """reach_behind(question,signs) rounds_behind(question,signs) lies_within(one,other) cover(one,other)
        is_cover(one,other,value) parting(one,other) is_parting(one,other,value) how_many_triples(one,other)
        are_alike(one,other) needless(question) pared(question)""",
    "filled": """obeys(store,rules) wanted(store,rules) filled(store,rules) put_in(store,rules,tie)
        rounds(store,rules) round_of(store,rules,tie) trace(store,rules,tie) is_trace(store,rules,tie,value)
        is_denial(store,rules,tie,value) strikes(store,rules,tie) strike_tree(store,rules,tie,number)
        is_strike_tree(store,rules,tie,number,value)""",
    "rules": """is_rule(value) leads(rules,word,aim) leads_paper(rules,word,aim) against(rules,word,aim)
        is_leads_paper(rules,word,aim,value) is_against(rules,word,aim,value) words_from(rules,word)
        shortest(rules,word) is_implied(rules,rule) needless(rules) fewest_rules(rules) are_alike(rules,others)
        parting_store(rules,others) is_parting_store(rules,others,value)""",
    "lots": "kept_of(store,lot,telling) is_kept(lot,nodes,value,telling)",
    "plans": """bridges(lot,word) classes(lot,word) steps_at(lot,word,place) is_settled(lot,word) plan(lot,word)
        is_plan(lot,word,value) cut(lot,word) greatest_cut(lot,word) is_cut(lot,word,value)""",
    "told": """told(lot,word,nodes,kept,telling) tables(lot,word,nodes,kept) count_paper(lot,word,nodes,kept)
        is_count_paper(lot,word,nodes,kept,value)""",
    "twins": """twins(lot,word,cut=None) is_parting(lot,word,value,telling) first_apart(one,other,word,telling)
        unlike_words(lot,one,other,telling)""",
    "upkeep": """stretches(word,letter) choices(word,letter) part(word,places,tie,nodes,telling,answers)
        keeps_up(lot,letter) kept_letters(lot) first_gap(lot,letter) unsettled(lot,letter) plans_paper(lot,letter)
        is_plans_paper(lot,letter,value) behind_put(lot,nodes,kept,telling,tie,done=True)
        behind_strike(lot,nodes,kept,tie,done=True) apart(lot,letter) is_apart(lot,letter,telling,value)""",
    "secrets": """gives_away(lot,secret) hidden(lot,secrets) is_withholding(lot,prices,secrets,value)
        least_withholdings(lot,prices,secrets) cheapest_withholding(lot,prices,secrets)
        price_of_hiding(lot,prices,secrets) tree_of_plans(lot,prices,secrets,number)
        is_tree_of_plans(lot,prices,secrets,number,value)""",
    "stocks": """stocks(prices,wish) is_stock(prices,wish,value) cheapest_stock(prices,wish) price_of_stock(prices,wish)
        reason(prices,wish,lot) tree_of_reasons(prices,wish,number) is_tree_of_reasons(prices,wish,number,value)""",
    "parts": """changed(scene,state,change) wanted(scene,state) duty_way(scene,state) rest_of(scene,state)
        outcomes(scene,deed,state)""",
    "vows": """holds(scene,state,vow) record(scene) is_record(scene,value) shows(scene,value,vow,looks='all')
        is_kept(scene,vow,looks='all') seen(scene,looks='all')""",
    "plays": """is_play(scene,value) looked(scene,play,looks='all') breaks(scene,play,vow,looks='all')
        cost(scene,play,prices) cheapest_play(scene,vow,prices,looks='all') least_cost(scene,vow,prices,looks='all')
        cheapest_seals(scene,vow,prices,looks='all') tree_against(scene,vow,prices,number,looks='all')
        is_tree_against(scene,vow,prices,number,value,looks='all')""",
    "weaving": """weavings(sessions) is_weaving(sessions,value) weaving_of(sessions,order)
        marks(sessions,weaving,spot=None) heard(sessions,store,weaving) behind(sessions,store,weaving)""",
    "explained": """explains(sessions,weaving,order) explains_in(sessions,store,weaving,order) order_for(sessions,weaving)
        miss(sessions,weaving,order) misses(sessions,weaving) is_miss(sessions,weaving,order,value)
        is_misses(sessions,weaving,value) everywhere(sessions,weaving) against_all(sessions,weaving)
        is_against_all(sessions,weaving,value) first_missed(sessions) how_many_missed(sessions) order_table(sessions)""",
    "joints": """joints(sessions) keeps(sessions,weaving,some) are_enough(sessions,some) least_joints(sessions)
        cheapest_joints(sessions,prices) tree_of_misses(sessions,prices,number)
        is_tree_of_misses(sessions,prices,number,value)""",
    "copies": """agrees(kind) bears_repeats(kind) looks(kind) repeat_looks(kind) shows_agreement(kind,value)
        shows_repeats(kind,value) clash(kind) echo(kind) is_clash(kind,value) is_echo(kind,value)
        greatest_together(kind) copy_behind(kind,nodes,some)""",
    "sayings": """said(store,saying) question_of(saying) says_within(one,other) says_alike(one,other)
        says_apart(one,other)""",
    "code": """run(code,store) run_kept(code,nodes,kept) is_run(code,store,value) stands_for(code)
        tell_alike(one,other)""",
    "registers": """numbers(saying) number_of(saying) code_of(saying) is_code_of(saying,value) in_use(code)
        fewest_registers(code) fullest(code) packed(code)""",
    "loads": """places(code,word) is_sure(code,word) price(code,fares) code_of_plan(lot,word)
        is_code_of_plan(lot,word,value) cheapest_price(lot,word,fares) cheapest_code(lot,word,fares)
        price_ranks(lot,word,fares,number) are_price_ranks(lot,word,fares,number,value)""",
    "texts": """text_of(entry) rules_text(rules) read_store(text) read_question(text) read_rules(text) read_lot(text)
        read_kind(text)""",
    "log": "is_command_line(value) check_of(line) bytes_of(log)",
    "net": "tried(net,commands)",
}
METHODS = {
    ("store", "Store"): """__init__(self,nodes,ties) ties(self) letters(self) goals(self,node,letter)
        sources(self,node,letter) has(self,tie) put(self,tie) strike(self,tie) renumbered(self,order)
        beside(self,other) row(word) __add__ __sub__ __invert__ __len__ __contains__ __eq__ __repr__""",
    ("questions", "Question"): """__init__(self,standings,steps,ends) steps(self) ends(self) goals(self,standing,sign)
        signs(self) reads(self,signs) trimmed(self) renumbered(self,order) of(signs) __eq__ __repr__""",
    ("lots", "Lot"): """__init__(self,words) words(self) letters(self) __add__ __sub__ __or__ __and__ __len__
        __contains__ __iter__ __eq__ __repr__""",
    ("stocks", "Wish"): """__init__(self,questions,letters,secrets) questions(self) letters(self) secrets(self)
        is_granted(self,lot) __or__ __eq__ __repr__""",
    ("parts", "Scene"): """__init__(self,store,loose,deeds,powers,rules,duty) loose(self) deeds(self) powers(self)
        rules(self) body(self,deed) store_at(self,state) with_duty(self,duty) __sub__ __add__ __eq__""",
    ("weaving", "Sessions"): """__init__(self,nodes,programs) programs(self) spots(self) asks(self) touched(self)
        orders(self) __getitem__ __len__ __eq__ __repr__""",
    ("kinds", "Kind"): """__init__(self,table,counting) last() strike_wins() table(self) counting(self) mark(self,deeds)
        does_count(self,deeds) least(self) only(self,deeds) __and__ __or__ __len__ __eq__ __repr__""",
    ("sayings", "Saying"): """__init__(self,tree) of(word) read(text) leaves(self) text(self) again(self) perhaps(self)
        __mul__ __or__ __invert__ __len__ __eq__ __repr__""",
    ("code", "Code"): """__init__(self,lines) lines(self) __add__ __getitem__ __len__ __eq__ __repr__""",
    ("log", "Log"): """__init__(self,entries) entries(self) lines(self) text(self) first(self,many) parted(self,mark)
        read(text) torn(text) __add__ __len__ __contains__ __iter__ __eq__ __repr__""",
    ("net", "Net"): """__init__(self,store,telling,log) torn(store,text,telling) rules(self) tables(self) readers(self)
        secrets(self) log(self) do(self,command) do_all(self,commands) copy(self) __call__(self,command) __eq__""",
    ("net", "Trial"): """__init__(self,net) __enter__ __exit__""",
}
PROPERTIES = {("store", "Store"): ["nodes"], ("questions", "Question"): ["standings"],
              ("parts", "Scene"): ["store", "duty", "first_state"], ("weaving", "Sessions"): ["nodes"],
              ("kinds", "Kind"): ["deed_count"], ("sayings", "Saying"): ["shape", "many_parts", "may_be_empty"],
              ("code", "Code"): ["registers", "told"], ("net", "Net"): ["store", "telling", "lot", "late", "changes"]}
STATIC = [("store", "Store", "row"), ("questions", "Question", "of"), ("kinds", "Kind", "last"),
          ("kinds", "Kind", "strike_wins"), ("sayings", "Saying", "of"), ("sayings", "Saying", "read"), ("log", "Log", "read"),
          ("log", "Log", "torn"), ("net", "Net", "torn")]
VALUES = {("store", "Store"): {"MOST_NODES": 40, "MOST_TIES": 400}, ("questions", "Question"): {"MOST_STANDINGS": 9},
          ("lots", "Lot"): {"MOST_WORDS": 8},
          ("weaving", "Sessions"): {"MOST_NODES": 8, "MOST_SESSIONS": 3, "MOST_LINES": 3}}
DEFAULTS = {("store", "Store"): {"ties": ()}, ("lots", "Lot"): {"words": ()},
            ("stocks", "Wish"): {"questions": (), "letters": "", "secrets": ()},
            ("parts", "Scene"): {"powers": (), "rules": (), "duty": False}, ("log", "Log"): {"entries": ()},
            ("net", "Net"): {"telling": "whether", "log": ()}}
FOLDER = os.path.dirname(netkeep.__file__)
LIBRARY = {"math": {"gcd"}, "heapq": {"heappop", "heappush"}}


def sources():
    """The name and the text of each file of the package."""
    for name in sorted(os.listdir(FOLDER)):
        if name != "__pycache__":
            with open(os.path.join(FOLDER, name), encoding="utf-8", newline="") as file:
                yield name, file.read()


CHANGES = {"append", "clear", "extend", "insert", "pop", "remove", "reverse", "setdefault", "update"}


def walked(loop):
    """What a loop walks, as it is written, through zip, enumerate, reversed and views."""
    if isinstance(loop, (ast.Name, ast.Attribute, ast.Subscript)):
        return {ast.unparse(loop)}
    if isinstance(loop, ast.Call) and isinstance(loop.func, ast.Name) and loop.func.id in ("zip", "enumerate", "reversed"):
        return set().union(*map(walked, loop.args))
    if isinstance(loop, ast.Call) and isinstance(loop.func, ast.Attribute) and loop.func.attr in ("items", "keys", "values"):
        return walked(loop.func.value)
    return set()


def other_names(function, names):
    """The names, and all that plain assignments of the function give these very objects."""
    names = set(names)
    for node in list(ast.walk(function)) * 2:
        if isinstance(node, ast.Assign) and isinstance(node.value, (ast.Name, ast.Attribute, ast.Subscript)):
            told = {ast.unparse(one) for one in (*node.targets, node.value)}
            if told & names:
                names |= told
    return names


def changed_in(loop):
    """What the rows of a loop change, as it is written."""
    for node in [node for row in loop.body for node in ast.walk(row)]:
        if isinstance(node, ast.Subscript) and isinstance(node.ctx, (ast.Store, ast.Del)):
            yield ast.unparse(node.value)
        if isinstance(node, ast.Call) and isinstance(node.func, ast.Attribute) and node.func.attr in CHANGES:
            yield ast.unparse(node.func.value)


def is_plainly_a_number(node):
    """Whether an expression is `int(..)`, `len(..)` or a written number."""
    if isinstance(node, ast.Call):
        return isinstance(node.func, ast.Name) and node.func.id in ("int", "len")
    return isinstance(node, ast.Constant) and type(node.value) is int


class Interface(unittest.TestCase):
    def parameters(self, function):
        return list(inspect.signature(function).parameters)

    def told_parameters(self, function):
        """The parameters with their defaults, as they are written above."""
        told = inspect.signature(function).parameters.values()
        return [one.name + ("" if one.default is one.empty else f"={one.default!r}") for one in told]

    def test_functions(self):
        for name, text in FUNCTIONS.items():
            module = importlib.import_module(f"netkeep.{name}")
            for told in text.split():
                function = getattr(module, told.split("(")[0])
                self.assertTrue(inspect.isfunction(function), told)
                self.assertEqual(function.__module__, module.__name__, told)
                self.assertEqual(self.told_parameters(function), told[:-1].split("(")[1].split(","), told)

    def test_methods_stand_in_their_classes(self):
        for (name, known), text in METHODS.items():
            cls = getattr(importlib.import_module(f"netkeep.{name}"), known)
            self.assertEqual(cls.__module__, f"netkeep.{name}")
            for told in text.split():
                method = told.split("(")[0]
                self.assertIn(method, vars(cls), told)
                if "(" in told:
                    plain = vars(cls)[method]
                    plain = plain.__func__ if isinstance(plain, staticmethod) else plain
                    names = [name for name in told[:-1].split("(")[1].split(",") if name]
                    self.assertEqual(self.parameters(plain), names, told)

    def test_static_methods_properties_class_values_and_defaults(self):
        for (name, known), names in PROPERTIES.items():
            cls = getattr(importlib.import_module(f"netkeep.{name}"), known)
            for told in names:
                self.assertIsInstance(vars(cls)[told], property)
        for (name, known), values in VALUES.items():
            cls = getattr(importlib.import_module(f"netkeep.{name}"), known)
            for told, value in values.items():
                self.assertEqual(vars(cls)[told], value)
        for (name, known), values in DEFAULTS.items():
            cls = getattr(importlib.import_module(f"netkeep.{name}"), known)
            for told, value in values.items():
                self.assertEqual(inspect.signature(cls).parameters[told].default, value)
        for name, known, method in STATIC:
            cls = getattr(importlib.import_module(f"netkeep.{name}"), known)
            self.assertIsInstance(vars(cls)[method], staticmethod)


class Files(unittest.TestCase):
    def test_only_files_of_python(self):
        names = [name for name, _ in sources()]
        self.assertIn("__init__.py", names)
        self.assertEqual([name for name in names if not name.endswith(".py")], [])
        self.assertLessEqual(len(names), 100)

    def test_lines_and_characters(self):
        for name, text in sources():
            lines = text.split("\n")
            self.assertLessEqual(len(lines) - 1, 399, name)
            self.assertLessEqual(max(map(len, lines)), 120, name)
            self.assertEqual([sign for sign in text if sign != "\n" and not " " <= sign <= "~"], [], name)

    def test_functions_are_small(self):
        for name, text in sources():
            for node in ast.walk(ast.parse(text)):
                if isinstance(node, ast.FunctionDef):
                    self.assertLessEqual(node.end_lineno - node.lineno + 1, 40, f"{name}: {node.name}")

    def test_no_loop_changes_what_it_walks(self):
        for name, text in sources():
            for function in ast.walk(ast.parse(text)):
                if isinstance(function, ast.FunctionDef):
                    for loop in [node for node in ast.walk(function) if isinstance(node, ast.For)]:
                        names = other_names(function, walked(loop.iter))
                        self.assertEqual(names & set(changed_in(loop)), set(), f"{name}: {function.name}")

    def test_remainders_are_of_what_is_plainly_a_number(self):
        # `log.py` makes bytes, and `%` behind a name could be a format of bytes or an operator of a class.
        for name, text in sources():
            for node in ast.walk(ast.parse(text)):
                if isinstance(node, (ast.BinOp, ast.AugAssign)) and isinstance(node.op, ast.Mod):
                    told = f"{name}: {ast.unparse(node)}"
                    self.assertTrue(isinstance(node, ast.BinOp) and is_plainly_a_number(node.left), told)

    def test_imports_come_from_the_package_and_little_else(self):
        for name, text in sources():
            for node in ast.walk(ast.parse(text)):
                self.assertNotIsInstance(node, ast.Import, name)
                if isinstance(node, ast.ImportFrom) and not node.module.startswith("netkeep."):
                    self.assertLessEqual({alias.name for alias in node.names}, LIBRARY.get(node.module, set()), name)
                if isinstance(node, ast.ImportFrom):
                    self.assertEqual((node.level, [alias.asname for alias in node.names if alias.asname]), (0, []), name)


if __name__ == "__main__":
    unittest.main()
