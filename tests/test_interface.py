"""The interface: each name is defined in its own file, and takes the arguments that the document lists."""

import ast
import importlib
import inspect
import unittest
from pathlib import Path

PACKAGE = Path(__file__).parent.parent / "sharedscopes"

FUNCTIONS = {
    "deeds": """is_name(value) is_stamp(value) is_body(value) is_deed(value) is_mark(deed) named_by(deed)
        time_seen(deed,hand) does_hold(kind)""",
    "books": "has_seen(book,one,other) are_apart(book,one,other)",
    "branches": """is_branch(book,value) all_of(book) closure_of(book,stamp) joined_branch(book,one,other)
        common_branch(book,one,other) heads_of(book,branch) branch_of(book,stamps) part_of(book,branch)
        news_of(book,branch,other) lacks_of(book,branch,stamp) all_branches(book)""",
    "marks": """does_count(book,stamp) does_turn(book,stamp) alive_deeds(book) alive_without(book,stamps)
        line_of(book,hand) next_undo(book,hand) next_redo(book,hand) marks_to(book,branch)
        marks_of(book,branch,hand)""",
    "plays": "play_of(book,without=()) accepts_play(book,value) row_of(book,stamp) placings_of(book,thing)",
    "states": "ends_of(state) at_branch(book,branch)",
    "late": """is_change(book,value) changed_rows(book,change) ways_out(book,stamp) is_safe(book,stamp) front_of(book)
        settled_rows(book)""",
    "fates": """fate_of(book,stamp) fates_of(book,without=()) gone_paper(book,stamp) accepts_gone(book,value)""",
    "hangs": """needs_of(book,stamp) hangers_of(book,stamps) hurt_hands(book,stamps) clean_set(book,stamps)
        awaiting_of(book,stamp) hanger_paper(book,stamps,hanger) accepts_hanger(book,stamps,value)""",
    "scopes": """nearest_let(state,thing) visible_lets(state,thing) scope_of(state,let) told_use(state,use)
        uses_of(state,let) lost_uses(state) depth_of(state,let) lets_in(state)""",
    "gaps": """gaps_of(state,thing) gap_sees(state,thing,gap,let) let_scope(state,thing,gap) demands_of(state,thing)
        kept_at(state,thing,gap) most_kept(state,thing) best_gaps(state,thing) free_runs(state,thing)
        keys_at(state,thing,gap) best_move(state,thing) narrowest_gap(state,things)""",
    "gappapers": "at_odds(state,thing,one,other) gap_paper(state,thing) accepts_gap(state,thing,value)",
    "meets": """is_written(value) is_naming(state,value) live_points(state,let) do_meet(state,one,other)
        ranked_lets(state) read_as(state,naming,use) is_right(state,naming) wrong_paper(state,naming)
        accepts_wrong(state,naming,value)""",
    "kept": """most_paper(state,lets,weights=None) accepts_most(state,lets,value,weights=None)
        how_taken(state,lets,let,weights=None) least_weight(state,lets,let,weights=None)""",
    "namings": """told_naming(state,weights=None) fewest_names(state) plain_naming(state)
        mended_naming(state,old,weights=None) in_the_way(state,naming,let,name)""",
    "grammar": "plain_of(text) is_text(value) spans_of(text) item_at(text,index)",
    "reading": "read_shape(text) meant_lets(text) made_of(text)",
    "becoming": """told_pairs(book,text) least_number(book,text,pairs) bodies_for(book,hand,text,pairs)
        does_become(book,hand,text,pairs,value) least_of_all(book,text)""",
    "values": """value_of(state,thing) parts_of(state,thing) does_hang(state,one,other) values_of(state)
        causes_of(state,thing) none_paper(state,thing) accepts_none(state,thing,value)""",
    "useless": "needed_lets(state) useless_lets(state) use_paper(state,let) accepts_use(state,let,value)",
    "polynomials": "is_polynomial(value) sum_of(one,other) product_of(one,other) value_at(polynomial,contents)",
    "alike": """polynomial_of(state,thing) are_always(state,one,other) witness_of(state,one,other)
        alike_paper(state,one,other) accepts_alike(state,one,other,value) profile_of(state,number,thing)
        choices_of(state,use,thing) spare_by(state,let)""",
    "reach": "reach_of(book,stamp) does_heal(book,stamps) healing_sets(book,menu)",
    "horizons": """horizon_of(hands,hand) certain_deeds(hands,hand) fewest_messages(book,branches)
        accepts_messages(book,branches,value)""",
    "booktexts": "write_book(book) read_book(text) is_book_text(value) body_words(body) body_of(words)",
    "writing": "text_by(state,naming) text_of(state,weights=None) shape_of(state) are_alike(one,other)",
    "slots": """slot_of(deed) writes_of(deed) done_of(book,slot) rivals_of(book,slot) is_open(book,slot)
        open_slots(book) clashes_now(book) clashes(book)""",
}

METHODS = {
    ("books", "Book"): """__init__(self,deeds=()) deeds(self) listed(self) last(self,hand) with_deeds(self,more)
        followed(self,hand,bodies) __getitem__(self,at) __contains__(self,x) __len__(self) __iter__(self)
        __eq__(self,other)""",
    ("states", "State"): """__init__(self,book,without=()) things(self) is_there(self,value) is_in(self,value)
        kind(self,thing) content(self,thing) place(self,thing) under(self,thing) holder(self,thing) below(self,thing)
        line(self) __eq__(self,other)""",
    ("hands", "Hands"): """__init__(self,count) do(self,hand,body) back(self,hand) again(self,hand)
        send(self,sender,taker,stamps=None) take(self,packet) lose(self,packet) ask(self,taker,sender) packets(self)
        kept(self,hand) waiting(self,hand) lacking(self,hand) shown(self,hand) branch(self,hand) everything(self)
        trial(self) trying(self,guest,*,kept=False) twin(self) __eq__(self,other)""",
    ("console", "Console"): "__init__(self) run(self,line)",
}

PROPERTIES = {("hands", "Hands"): ["many"]}


def defined(module):
    """The functions and classes that the module's file defines."""
    tree = ast.parse((PACKAGE / f"{module}.py").read_text())
    return {node.name: node for node in tree.body if isinstance(node, (ast.FunctionDef, ast.ClassDef))}


def shown(name, what):
    """The name and the parameters as they stand in the tables above."""
    return name + str(inspect.signature(what)).replace(" ", "")


class InterfaceTest(unittest.TestCase):
    def test_functions(self):
        for module, rows in FUNCTIONS.items():
            found = importlib.import_module(f"sharedscopes.{module}")
            for row in rows.split():
                name = row.split("(")[0]
                self.assertIn(name, defined(module))
                self.assertEqual(row, shown(name, getattr(found, name)))

    def test_methods_are_defined_in_the_class_itself(self):
        for (module, name), rows in METHODS.items():
            found = getattr(importlib.import_module(f"sharedscopes.{module}"), name)
            methods = {node.name for node in defined(module)[name].body if isinstance(node, ast.FunctionDef)}
            for row in rows.split():
                method = row.split("(")[0]
                self.assertIn(method, methods)
                self.assertEqual(row, shown(method, getattr(found, method)))

    def test_properties(self):
        for (module, name), rows in PROPERTIES.items():
            found = vars(getattr(importlib.import_module(f"sharedscopes.{module}"), name))
            for row in rows:
                self.assertIsInstance(found[row], property)

    def test_the_root(self):
        self.assertEqual("(0, 0)", repr(importlib.import_module("sharedscopes.deeds").ROOT))

    def test_the_package_imports_nothing_by_itself(self):
        tree = ast.parse((PACKAGE / "__init__.py").read_text())
        self.assertEqual([], [node for node in ast.walk(tree) if isinstance(node, (ast.Import, ast.ImportFrom))])
