"""The names and arguments of the interface, and where they are defined."""

import importlib
import inspect
import unittest

FUNCTIONS = {
    "naming": {"format_name": ["name"], "parse_name": ["text"], "parse_spot": ["text"], "parse_mark": ["text"]},
    "changes": {"in_past": ["name", "change"], "order_key": ["change"], "in_order": ["changes"]},
    "store": {"is_whole": ["store"]},
    "rights": {
        "capability_info": ["store", "capability"], "is_above": ["store", "first", "second"],
        "is_fit": ["store", "change"], "revoked_by": ["store", "change"], "verdicts": ["store"],
        "is_held": ["store", "allowed", "capability"], "may_read": ["store", "allowed", "member", "space"],
        "counts_in": ["store", "allowed", "change", "space"], "allowed_seals": ["store", "allowed"]},
    "undo": {
        "knows": ["store", "spot", "other"], "is_closed": ["store", "allowed", "spot", "name"],
        "undone_by": ["store", "allowed", "change", "space"], "taking_effect": ["store", "allowed", "space"],
        "effective_acts": ["store", "allowed", "space"]},
    "cells": {"shown_writes": ["store", "allowed", "writes"], "has_kind": ["holds", "value"]},
    "letters": {
        "characters": ["store", "allowed", "space", "row", "column"],
        "text_of": ["store", "allowed", "space", "row", "column"]},
    "yielding": {"reasons": ["sheet"], "showing": ["sheet", "table"], "conflicts": ["sheet"]},
    "sources": {"sources": ["store", "allowed", "space"], "all_sources": ["store"]},
    "tokens": {"tokenize": ["text"], "write_token": ["token"]},
    "parser": {"parse": ["text"]},
    "printer": {"write_question": ["tree"]},
    "kinds": {
        "kind_of": ["value"], "fits": ["first", "second"], "common": ["first", "second"],
        "check": ["tree", "sources", "parameters"], "check_query": ["query", "sources", "parameters"]},
    "values": {
        "value_key": ["value"], "row_key": ["row"], "same": ["first", "second"],
        "arithmetic": ["operator", "first", "second"], "compare": ["operator", "first", "second"],
        "negation": ["value"], "conjunction": ["first", "second"], "disjunction": ["first", "second"]},
    "meaning": {"query_rows": ["query", "sources", "parameters"], "answer": ["tree", "sources", "parameters"]},
    "live": {
        "came": ["old", "new"], "went": ["old", "new"], "change_of": ["old", "new"],
        "join_change": ["old_left", "new_left", "old_right", "new_right", "condition"]},
    "why": {
        "entries": ["query", "sources", "parameters"], "ways": ["tree", "sources", "parameters", "row"],
        "rests_on": ["store", "allowed", "source", "row"]},
    "spaces": {"shown_to": ["store", "member"], "agree": ["first", "second"], "joined": ["first", "second"]},
    "cutting": {
        "last_seal": ["store"], "before_seal": ["store", "seal"], "kept_capabilities": ["store"],
        "kept_of": ["store", "space"], "cut_at": ["store", "seal"], "is_known": ["store", "space"],
        "is_known_to": ["store", "space", "seal"]},
    "codes": {
        "write_number": ["number"], "write_integer": ["number"], "write_string": ["text"], "write_value": ["value"],
        "write_act": ["act"], "write_change": ["change"], "write_kept": ["kept"], "write_capability": ["entry"],
        "write_store": ["store"]},
    "packets": {"asking": ["store", "member"], "giving": ["store", "packet"], "taking": ["store", "packet"]},
    "log": {
        "write_record": ["data"], "checksum": ["data"], "read_records": ["data"], "log_start": ["turn", "store"],
        "read_log": ["data", "members"], "counting_file": ["first", "second", "members"]},
}
CLASSES = {
    "changes": {"Change": (["author", "number", "heard", "capability", "publics", "parts"], {
        "name": [], "header": [], "with_parts": ["parts"]})},
    "store": {
        "Kept": (["acts", "sums", "texts"], {"data": []}),
        "Store": (["members"], {"count": ["member"], "counts": [], "find": ["name"], "has": ["name"], "all_changes": [],
                                "add": ["change"], "copy": [], "data": []})},
    "sheets": {"Sheet": (["store", "allowed", "space"], {
        "act_of": ["spot"], "holds": ["column"], "table_of": ["spot"], "writes": ["row", "column"],
        "shown": ["row", "column"], "counted": ["row", "column"], "entry": ["row", "column"]})},
    "sources": {"Source": (["name", "columns", "kinds", "rows"], {})},
    "live": {"Live": (["tree", "parameters"], {"turn": ["sources"]})},
    "reading": {"Reader": (["data"], {
        "read_number": [], "read_integer": [], "read_string": [], "read_value": [], "read_act": [], "read_change": [],
        "read_kept": [], "read_capability": [], "read_store": [], "end": []})},
    "files": {"File": ([], {
        "write": ["data", "steps"], "shorten": ["size", "steps"], "flush": ["steps"], "content": [], "pending": [],
        "lose": ["steps"]})},
    "replica": {
        "Replica": (["member", "members"], {
            "act": ["capability", "publics", "parts"], "have": [], "answer": ["packet"], "take": ["packet"],
            "ask": ["text", "parameters"], "live": ["text", "parameters"], "why": ["text", "parameters", "row"],
            "conflicts": ["space"], "verdict": ["name"], "status": [], "trim": [], "open_again": [], "flush": [],
            "fail_after": ["steps"], "power": ["first", "second"], "log": ["index"]}),
        "Watch": (None, {"turn": []})},
}


def module(name):
    return importlib.import_module("kithbase." + name)


class Interface(unittest.TestCase):
    def check(self, found, arguments, skipped=0):
        self.assertEqual(list(inspect.signature(found).parameters)[skipped:], arguments, found)

    def test_functions(self):
        for name in FUNCTIONS:
            for word, arguments in FUNCTIONS[name].items():
                found = getattr(module(name), word)
                self.assertTrue(inspect.isfunction(found), word)
                self.assertEqual(found.__module__, "kithbase." + name, word)
                self.check(found, arguments)

    def test_classes(self):
        for name in CLASSES:
            for word, (arguments, methods) in CLASSES[name].items():
                found = getattr(module(name), word)
                self.assertEqual(found.__module__, "kithbase." + name, word)
                if arguments is not None:
                    self.check(found, arguments)
                for method in methods:
                    self.assertIn(method, vars(found))
                    self.check(vars(found)[method], methods[method], skipped=1)

    def test_parameters_that_need_not_be_passed(self):
        for word in ["ask", "live"]:
            parameters = inspect.signature(getattr(module("replica").Replica, word)).parameters
            self.assertEqual(parameters["parameters"].default, ())
        self.assertIs(inspect.signature(module("replica").Replica.why).parameters["parameters"].default, inspect._empty)

    def test_constants(self):
        self.assertEqual(module("store").SPACES, 4)
        self.assertIsInstance(module("tokens").KEYWORDS, tuple)


if __name__ == "__main__":
    unittest.main()
