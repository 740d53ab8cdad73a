"""The interface: each name stands in its own file, with the arguments that are told, each method in its class itself."""

import ast
import inspect
import unittest

from tests.test_language import TREES

FUNCTIONS = {
    "schemas": {"is_schema": "thing", "is_row": "schema name thing"},
    "edits": {"is_deed": "schema thing", "is_mark": "thing", "is_edit": "schema thing", "holds": "mark other",
              "both": "mark other", "lacking": "mark other"},
    "states": {"with_edit": "state edit", "joined": "one other", "next_edit": "state life deed", "tables": "state",
               "titles": "state"},
    "rules": {"is_rule": "schema thing", "ordered": "rows"},
    "books": {"bar": "schema book name", "layer": "schema book name"},
    "meanings": {"meaning": "schema book tables", "rounds": "schema book tables name"},
    "ruletexts": {"rule_text": "rule", "read_rule": "schema text"},
    "proofs": {"proof": "schema book tables name row", "is_proof": "schema book tables name row thing",
               "lacks": "schema book tables name row"},
    "plans": {"is_order": "rule lot thing", "is_plan": "schema book thing", "plain_order": "rule lot"},
    "lots": {"closed_lot": "schema book plan tables question", "is_closed": "schema book plan tables question thing",
             "answer": "schema book plan tables question", "trace": "schema book plan tables question lot",
             "seeks": "schema book plan tables question", "better": "schema book tables question most"},
    "views": {"view_state": "view", "view_of": "schema thing"},
    "nears": {"near": "schema book tables gone come"},
    "mixing": {"mix": "p text", "number_of": "p fact", "fact_text": "fact"},
    "trees": {"with_fact": "tree fact", "without": "tree fact", "made": "tree", "unlike": "one other",
              "looked": "one other"},
    "showings": {"shown": "tree stretches", "root_of": "p showing", "read": "p root showing stretches",
                 "clash": "p one other", "is_clash": "p thing"},
    "roots": {"tree_of": "p state", "root_number": "p state"},
    "disks": {"record": "number body", "records": "text"},
    "texts": {"edit_text": "edit", "state_text": "state", "read_edit": "schema text", "read_state": "schema text"},
    "stores": {"begun": "disk body"},
    "houses": {"house_at": "schema p disk", "house_text": "house"},
    "papers": {"answer_of": "p state plan question", "least_paper": "p state question",
               "judge": "schema p root question answer", "witness": "schema p question one other", "cost": "answer"},
    "things": {"packed": "thing", "unpacked": "text"},
    "worlds": {}, "desks": {},
}
CLASSES = {
    "states": ("State", {"__init__": "schema", "cells": "", "sums": "", "bags": "", "rules": "", "__eq__": "other"}),
    "views": ("View", {"__init__": "schema book tables", "rows": "name", "tables": "", "book": "", "change": "gone come",
                       "rule": "name rule", "looks": ""}),
    "trees": ("Tree", {"__init__": "p facts", "__eq__": "other"}),
    "disks": ("Disk", {"__init__": "areas room", "texts": "", "put": "area text", "clear": "area", "sure": "",
                       "open_deeds": "", "fall": "kept", "copy": ""}),
    "stores": ("Store", {"__init__": "disk", "where": "", "generation": "", "first": "", "entries": "", "add": "body now",
                         "turn": "body", "sure": "", "fall": "kept"}),
    "houses": ("House", {"__init__": "life schema p disk", "life": "", "state": "", "stands": "", "root": "", "kept": "",
                         "gone": "", "aside": "", "faults": "", "rows": "name", "looks": "", "write": "token deed",
                         "ask": "token question", "have": "", "hear": "letter", "forget": "mark", "turn": "",
                         "fall": "kept"}),
    "worlds": ("World", {"__init__": "schema p many areas room", "do": "deed", "house": "number", "bag": "",
                         "token": "client", "told": "", "quiet": ""}),
    "desks": ("Desk", {"__init__": "schema p", "tell": "line", "lines": "", "state": ""}),
}


def arguments(node):
    return " ".join(one.arg for one in node.args.args)


class Interface(unittest.TestCase):
    def test_functions(self):
        for file, wanted in FUNCTIONS.items():
            there = {node.name: arguments(node) for node in TREES[file].body if isinstance(node, ast.FunctionDef)}
            for name, given in wanted.items():
                self.assertEqual(there.get(name), given, (file, name))

    def test_classes(self):
        for file, (name, wanted) in CLASSES.items():
            one = [node for node in TREES[file].body if isinstance(node, ast.ClassDef) and node.name == name][0]
            there = {node.name: arguments(node) for node in one.body if isinstance(node, ast.FunctionDef)}
            for method, given in wanted.items():
                self.assertEqual(there.get(method), f"self {given}".strip(), (name, method))

    def test_all_can_be_imported(self):
        for file in FUNCTIONS:
            module = __import__(f"shownviews.{file}", fromlist=["*"])
            for name in FUNCTIONS[file]:
                self.assertTrue(inspect.isfunction(getattr(module, name)))
