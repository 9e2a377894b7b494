"""The names and arguments of the interface, for the modules that stand so far."""

import importlib
import inspect
import unittest

FUNCTIONS = {
    "tidemark.errors": ["word_of(error)"],
    "tidemark.pages.numbers": ["number_row(number, width)", "row_number(row)"],
    "tidemark.pages.sums": ["page_sums(page)"],
    "tidemark.pages.contents": ["fits_page(content)", "content_body(content)"],
    "tidemark.pages.pages": ["write_page(content)", "read_page(page)"],
    "tidemark.pages.digits": ["page_digits(reading)", "read_digits(text)"],
    "tidemark.index.counting": ["nodes_counted(keys)", "pages_counted(keys)"],
    "tidemark.index.loading": ["load_index(root, reading_of)"],
    "tidemark.space.order": ["free_blocks(store)", "data_blocks(store)"],
}

CLASSES = {
    ("tidemark.chip.chip", "Chip(blocks, pages)"): [
        "plan(fates, looks)",
        "fates_left()",
        "looks_left()",
        "program(block, page, content)",
        "erase(block)",
        "read(block, page)",
        "scan()",
        "state(block, page)",
        "erases(block)",
        "is_alive(block)",
        "switch_on()",
        "copied()",
    ],
    ("tidemark.index.index", "Index()"): [
        "put(key, address, octets)",
        "drop(key)",
        "find(key)",
        "keys_sorted()",
        "mark_block(block)",
        "next_node()",
        "write_node(level, number, address)",
        "root_address()",
        "unwritten_count()",
        "node_addresses()",
        "live_addresses()",
        "copied()",
    ],
}


def shown(called):
    return called.__name__ + str(inspect.signature(called))


def method_shown(owner, name):
    method = vars(owner)[name]
    parameters = list(inspect.signature(method).parameters.values())[1:]
    return name + str(inspect.Signature(parameters))


class Interface(unittest.TestCase):
    def test_functions(self):
        for module, lines in FUNCTIONS.items():
            for line in lines:
                found = getattr(importlib.import_module(module), line.split("(")[0])
                self.assertEqual((found.__module__, shown(found)), (module, line))

    def test_classes(self):
        for (module, line), methods in CLASSES.items():
            found = getattr(importlib.import_module(module), line.split("(")[0])
            self.assertEqual((found.__module__, shown(found)), (module, line))
            for method in methods:
                self.assertEqual(method_shown(found, method.split("(")[0]), method)


if __name__ == "__main__":
    unittest.main()
