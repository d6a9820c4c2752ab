"""The interface of the document: names, arguments, and the files that define them."""

import importlib
import inspect
import unittest

INTERFACE = {
    "errors": {"ManysidesError": ["place"], "InvalidText": ["place"], "InvalidShape": ["place"],
               "InvalidCell": ["place"], "InvalidQuery": ["place"], "InvalidWords": ["place"],
               "InvalidVersion": ["place"], "Truncated": ["place"], "Damaged": ["place"], "PowerLost": ["place"],
               "LineCut": ["place"]},
    "texts": {"encode_text": ["text"], "decode_text": ["octets"], "is_text": ["text"]},
    "kinds": {"is_value": ["kind", "value"], "least_of": ["kind"], "greatest_of": ["kind"],
              "is_before": ["first", "second"]},
    "shapes": {"Shape": ["dims", "attrs"], "check_shape": ["shape"], "is_simple_name": ["text"],
               "dim_index": ["shape", "name"], "attr_index": ["shape", "name"]},
    "arrays": {"Array": ["shape", "cells"], "check_array": ["array"], "sorted_cells": ["array"]},
    "expressions": {"kind_of": ["expression", "shape"], "value_of": ["expression", "shape", "place", "values"],
                    "parts_of": ["expression"]},
    "chunks": {"chunk_of": ["shape", "place"], "box_of_chunk": ["shape", "chunk"], "box_size": ["box"],
               "position_of": ["box", "place"], "place_at": ["box", "position"], "split": ["array"],
               "join_chunks": ["shape", "chunks"]},
    "coding": {"encode_chunk": ["shape", "chunk", "cells"], "decode_chunk": ["shape", "chunk", "octets"],
               "write_number": ["n"], "write_signed": ["n"]},
    "marks": {"marks_of": ["shape", "cells"], "keeps_to": ["shape", "cells", "marks"]},
    "sieves": {"span_of": ["expression", "shape", "box", "marks"], "paper_of": ["expression", "shape", "box", "marks"],
               "shows": ["expression", "shape", "box", "marks", "paper"], "allows": ["span", "value"],
               "can_pass": ["paper"]},
    "queries": {"parts_of": ["query"], "with_parts": ["query", "parts"], "operators": ["query"],
                "shape_of": ["query", "shapes"]},
    "teller": {"tell": ["query", "arrays"], "aggregate": ["word", "values"]},
    "rules": {"applied": ["name", "query", "shapes"], "rewritten": ["query", "shapes"], "put_in": ["e", "definitions"],
              "names_in": ["e"]},
    "sources": {"MemorySource": ["arrays"]},
    "regions": {"whole_region": ["shape"]},
    "parts": {"part": ["query", "region", "source"], "run": ["query", "source"], "answer_chunks": ["query", "source"],
              "reads_of": ["query", "region", "source"], "plan": ["query", "source"]},
    "reach": {"reach": ["query", "shapes", "name", "region"], "renewed": ["query", "answer", "source", "name", "region"]},
    "origins": {"origins": ["query", "arrays", "region"], "cells_in": ["cells", "region"]},
    "pyramids": {"totals_of": ["shape", "cells"], "together": ["first", "second"], "Pyramid": ["array"]},
    "disk": {"Disk": []},
    "roots": {"Root": ["upcoming", "data", "versions"], "sum_of": ["octets"], "encode_root": ["root"],
              "decode_root": ["octets"]},
    "store": {"Store": ["disk"]},
    "vacuum": {"forget": ["store", "versions"], "vacuum": ["store"], "used": ["store"], "damage": ["store"]},
    "readers": {"Reader": ["store", "version", "room"]},
    "tokens": {"split_words": ["text"]},
    "parsing": {"parse_query": ["text"], "parse_expression": ["text"]},
    "printing": {"print_query": ["query"], "print_expression": ["expression"]},
    "stored": {"encode_marks": ["shape", "marks"], "decode_marks": ["shape", "octets"], "stored_array": ["array"],
               "array_names": ["store", "version"], "read_array": ["store", "version", "name"],
               "StoreSource": ["store", "version", "room"]},
    "database": {"Database": ["disk", "room"]},
    "workers": {"owner_of": ["key", "count"], "Worker": []},
    "jobs": {"Job": ["number", "version", "query", "source", "count"]},
    "clusters": {"Cluster": ["source", "version", "count"]},
}
METHODS = {
    ("sources", "MemorySource"): {"shapes": [], "chunks": ["name"], "marks": ["name", "chunk"], "read": ["name", "chunk"],
                                  "reads": [], "forget_reads": []},
    ("pyramids", "Pyramid"): {"levels": [], "box": ["level", "index"], "put": ["place", "values"], "take": ["place"],
                              "cover": ["region"], "loose": ["region"], "ask": ["region"], "cells": []},
    ("disk", "Disk"): {"names": [], "size": ["name"], "read": ["name", "start", "count"], "append": ["name", "octets"],
                       "sync": ["name"], "rename": ["old", "new"], "remove": ["name"], "sync_names": [],
                       "allow": ["count"], "done": [], "lose": ["choices"]},
    ("store", "Store"): {"versions": [], "latest": [], "arrays": ["version"], "shape": ["version", "name"],
                         "chunks": ["version", "name"], "chunk": ["version", "name", "chunk"], "put": ["arrays"], "root": []},
    ("readers", "Reader"): {"chunk": ["name", "chunk"], "hits": [], "reads": [], "kept": []},
    ("stored", "StoreSource"): {"shapes": [], "chunks": ["name"], "marks": ["name", "chunk"], "read": ["name", "chunk"], "reads": []},
    ("database", "Database"): {"begin": [], "sessions": [], "latest": [], "names": ["session"], "shape": ["session", "name"],
                               "ask": ["session", "query"], "ask_text": ["session", "text"], "create": ["session", "name", "shape"],
                               "drop": ["session", "name"], "put": ["session", "name", "cells"], "take": ["session", "name", "places"],
                               "keep": ["session", "name", "query"], "commit": ["session"], "abort": ["session"], "tidy": []},
    ("workers", "Worker"): {"receive": ["message"], "fall": [], "held": []},
    ("jobs", "Job"): {"sends": [], "receive": ["reply"], "is_done": [], "answer": [], "needs": []},
    ("clusters", "Cluster"): {"move": ["move"], "settle": [], "on_way": ["w"], "on_way_back": ["w"]},
}


class InterfaceTest(unittest.TestCase):
    def test_names_arguments_and_files(self):
        for file, names in INTERFACE.items():
            module = importlib.import_module(f"manysides.{file}")
            for name, arguments in names.items():
                thing = getattr(module, name)
                self.assertEqual(thing.__module__, f"manysides.{file}", name)
                self.assertEqual(list(inspect.signature(thing).parameters), arguments, name)

    def test_methods_stand_in_the_class_itself(self):
        for (file, name), methods in METHODS.items():
            thing = getattr(importlib.import_module(f"manysides.{file}"), name)
            for method, arguments in methods.items():
                self.assertIn(method, vars(thing), name)
                self.assertEqual(list(inspect.signature(getattr(thing, method)).parameters), ["self"] + arguments, method)
