"""The interface of the document: names, arguments, and the files that define them."""

import importlib
import inspect
import unittest

INTERFACE = {
    "errors": {"ManysidesError": ["place"], "InvalidText": ["place"], "InvalidShape": ["place"],
               "InvalidCell": ["place"], "InvalidQuery": ["place"], "InvalidWords": ["place"],
               "InvalidVersion": ["place"], "Truncated": ["place"], "Damaged": ["place"], "PowerLost": ["place"],
               "LineCut": ["place"]},
    "texts": {"encode_text": ["text"], "decode_text": ["octets"], "is_text": ["text"]},
    "kinds": {"is_value": ["kind", "value"], "least_of": ["kind"], "greatest_of": ["kind"],
              "is_before": ["first", "second"]},
    "shapes": {"Shape": ["dims", "attrs"], "check_shape": ["shape"], "is_simple_name": ["text"],
               "dim_index": ["shape", "name"], "attr_index": ["shape", "name"]},
    "arrays": {"Array": ["shape", "cells"], "check_array": ["array"], "sorted_cells": ["array"]},
    "expressions": {"kind_of": ["expression", "shape"], "value_of": ["expression", "shape", "place", "values"],
                    "parts_of": ["expression"]},
    "chunks": {"chunk_of": ["shape", "place"], "box_of_chunk": ["shape", "chunk"], "box_size": ["box"],
               "position_of": ["box", "place"], "place_at": ["box", "position"], "split": ["array"],
               "join_chunks": ["shape", "chunks"]},
    "coding": {"encode_chunk": ["shape", "chunk", "cells"], "decode_chunk": ["shape", "chunk", "octets"],
               "write_number": ["n"], "write_signed": ["n"]},
    "marks": {"marks_of": ["shape", "cells"], "keeps_to": ["shape", "cells", "marks"]},
    "sieves": {"span_of": ["expression", "shape", "box", "marks"], "paper_of": ["expression", "shape", "box", "marks"],
               "shows": ["expression", "shape", "box", "marks", "paper"], "allows": ["span", "value"],
               "can_pass": ["paper"]},
}


class InterfaceTest(unittest.TestCase):
    def test_names_arguments_and_files(self):
        for file, names in INTERFACE.items():
            module = importlib.import_module(f"manysides.{file}")
            for name, arguments in names.items():
                thing = getattr(module, name)
                self.assertEqual(thing.__module__, f"manysides.{file}", name)
                self.assertEqual(list(inspect.signature(thing).parameters), arguments, name)
