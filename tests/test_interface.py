"""The names and arguments of the interface."""

import importlib
import inspect
import unittest

FUNCTIONS = {
    "tidemark.errors": ["word_of(error)"],
    "tidemark.pages.numbers": ["number_row(number, width)", "row_number(row)"],
    "tidemark.pages.sums": ["page_sums(page)"],
    "tidemark.pages.contents": ["fits_page(content)", "content_body(content)"],
    "tidemark.pages.pages": ["write_page(content)", "read_page(page)"],
    "tidemark.pages.digits": ["page_digits(reading)", "read_digits(text)"],
    "tidemark.index.counting": ["nodes_counted(keys)", "pages_counted(keys)"],
    "tidemark.index.loading": ["load_index(root, reading_of)"],
    "tidemark.space.limits": ["spare_blocks(blocks)", "block_share(blocks, pages)", "page_limit(blocks, pages)"],
    "tidemark.space.order": ["free_blocks(store)", "data_blocks(store)"],
    "tidemark.space.victims": [
        "leaves_written(store, changes, victims)",
        "blocks_taken(store, changes, victims)",
        "blocks_freed(store, changes, victims)",
        "kept_blocks(store)",
        "needed_blocks(store)",
        "available_blocks(store)",
        "victims_of(store, changes)",
    ],
    "tidemark.space.levelling": ["hot_blocks(store)", "move_wanted(store)", "anchor_wanted(store)"],
    "tidemark.store.found": [
        "standing_root(scan)",
        "reading_of(scan, places, address)",
        "counted_items(scan, root)",
        "found_index(scan, root)",
    ],
    "tidemark.store.starting": ["format_chip(chip)", "mount_store(chip, settle)", "peek_values(chip, settle)"],
    "tidemark.files.walking": [
        "follow(tree, path)",
        "place_of(tree, path)",
        "entry_of(tree, path)",
        "names_to(tree, number)",
    ],
    "tidemark.files.operations": ["check_operation(operation)", "make_operation(tree, operation)"],
    "tidemark.files.values": [
        "node_values(number, node)",
        "tree_values(tree)",
        "tree_of(values)",
        "changes_between(before, after)",
        "settle(values)",
    ],
    "tidemark.volume.mounting": ["format_flash(chip)", "mount_flash(chip)", "peek_flash(chip)"],
    "tidemark.tools.listing": ["list_tree(tree, path)", "ways_from(tree, number)"],
    "tidemark.tools.usage": ["usage(tree, path)"],
    "tidemark.tools.patterns": ["is_pattern(text)", "matches(pattern, name)", "search(tree, path, pattern)"],
    "tidemark.tools.comparing": ["differences(tree, path, *, other, other_path)"],
    "tidemark.tools.removing": ["removals(tree, path)", "remove_tree(volume, path)"],
    "tidemark.tools.calls": ["make_call(volume, call)"],
    "tidemark.tools.copying": ["copies(tree, source, target)", "copy_tree(volume, source, target)"],
    "tidemark.inspector.defects": ["root_defects(scan, block, root)", "index_defects(scan, block, root)"],
    "tidemark.inspector.inspecting": ["inspect_scan(scan)", "inspect_flash(chip)"],
    "tidemark.inspector.describing": ["describe(digits)"],
    "tidemark.explorer.explore": ["explore(chip, calls)"],
    "tidemark.explorer.lifetime": ["lifetime(chip, endurance)"],
    "tidemark.files.names": ["is_name(text)", "is_path(text)", "is_target(text)", "names_of(path)"],
}

CLASSES = {
    ("tidemark.chip.chip", "Chip(blocks, pages)"): [
        "plan(fates, looks)",
        "fates_left()",
        "looks_left()",
        "program(block, page, content)",
        "erase(block)",
        "read(block, page)",
        "scan()",
        "state(block, page)",
        "erases(block)",
        "is_alive(block)",
        "switch_on()",
        "copied()",
    ],
    ("tidemark.index.index", "Index()"): [
        "put(key, address, octets)",
        "drop(key)",
        "find(key)",
        "keys_sorted()",
        "mark_block(block)",
        "next_node()",
        "write_node(level, number, address)",
        "root_address()",
        "unwritten_count()",
        "node_addresses()",
        "live_addresses()",
        "copied()",
    ],
    ("tidemark.store.store", "Store(chip, home, root, index, position)"): [
        "change(changes)",
        "sync()",
        "look(key)",
        "keys_shown()",
        "twin(chip)",
        "is_worn()",
        "is_current()",
    ],
    ("tidemark.files.node", "Node(kind, body, *, links=1)"): [
        "measure()",
        "with_body(body)",
        "with_links(links)",
        "__eq__(other)",
    ],
    ("tidemark.inspector.inspecting", "Report(defects, volume, pages)"): [],
    ("tidemark.files.tree", "FileTree()"): ["copied()", "is_open(number)", "entry(directory, name)"],
    ("tidemark.volume.volume", "Volume(store, tree, shape)"): [
        "mkdir(path)",
        "rmdir(path)",
        "write(path, offset, octets)",
        "read(path, offset, length)",
        "truncate(path, length)",
        "rename(source, target)",
        "link(source, target)",
        "unlink(path)",
        "symlink(target, path)",
        "readlink(path)",
        "readdir(path)",
        "stat(path)",
        "lstat(path)",
        "open_file(path)",
        "close_file(handle)",
        "read_at(handle, offset, length)",
        "write_at(handle, offset, octets)",
        "resize(handle, length)",
        "stat_at(handle)",
        "perform(operation)",
        "carry_out(operation)",
        "batch(operations)",
        "sync()",
        "check_writable()",
        "room()",
        "wear()",
        "tree_now()",
        "accepted_changes()",
        "synced_count()",
    ],
}

PROPERTIES = {("tidemark.volume.volume", "Volume"): ["is_up", "is_read_only"]}


def shown(called):
    return called.__name__ + str(inspect.signature(called))


def method_shown(owner, name):
    method = vars(owner)[name]
    parameters = list(inspect.signature(method).parameters.values())[1:]
    return name + str(inspect.Signature(parameters))


class Interface(unittest.TestCase):
    def test_functions(self):
        for module, lines in FUNCTIONS.items():
            for line in lines:
                found = getattr(importlib.import_module(module), line.split("(")[0])
                self.assertEqual((found.__module__, shown(found)), (module, line))

    def test_classes(self):
        for (module, line), methods in CLASSES.items():
            found = getattr(importlib.import_module(module), line.split("(")[0])
            self.assertEqual((found.__module__, shown(found)), (module, line))
            for method in methods:
                self.assertEqual(method_shown(found, method.split("(")[0]), method)

    def test_properties(self):
        for (module, name), properties in PROPERTIES.items():
            owner = getattr(importlib.import_module(module), name)
            for word in properties:
                self.assertIsInstance(vars(owner)[word], property)


if __name__ == "__main__":
    unittest.main()
