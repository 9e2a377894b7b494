"""Points 69 to 76: every operation, its arguments, its errors in their order, and what it changes."""

import unittest

from trees import chain_of_links, full_directory, made, refused, result, told, word_of_call

from tidemark.files.node import Node
from tidemark.files.operations import OPERATIONS, check_operation, make_operation
from tidemark.files.tree import FileTree

LONG = 28672
MOST = 5376

TABLE = """
mkdir rmdir write read truncate rename link unlink symlink readlink readdir stat lstat open_file close_file read_at
write_at resize stat_at
""".split()


def rich_tree():
    """1 /d, 2 /d/e, 3 /f, 4 /d/g, 5 /l to /f, 6 /lost, 7 /ld to /d, 8 /round; no handle is in use."""
    return made(
        ("mkdir", "/d"),
        ("mkdir", "/d/e"),
        ("write", "/f", 0, [1, 2, 3]),
        ("write", "/d/g", 0, [9]),
        ("symlink", "/f", "/l"),
        ("symlink", "nowhere", "/lost"),
        ("symlink", "d", "/ld"),
        ("symlink", "round", "/round"),
    )


def tree_of_numbers(many):
    """A tree with this many nodes, the root included: the directories /m0 .. and files in them."""
    tree = FileTree()
    for number in range(1, 5):
        tree.nodes[number] = Node("directory", ())
    tree.nodes[0] = Node("directory", tuple((f"m{number}", number) for number in range(1, 5)))
    for number in range(5, many):
        directory = 1 + (number - 5) // 63
        tree.nodes[number] = Node("file", ())
        entries = tree.nodes[directory].body + ((f"f{number:03d}", number),)
        tree.nodes[directory] = tree.nodes[directory].with_body(entries)
    return tree


class Checked(unittest.TestCase):
    """Errors that every operation has."""

    def check(self, tree, rows):
        for *operation, word in rows:
            self.assertEqual(refused(tree, *operation), word, operation)


class Table(unittest.TestCase):
    def test_names(self):
        self.assertEqual(OPERATIONS, tuple(TABLE))


class Arguments(unittest.TestCase):
    """Point 70."""

    def word(self, *operation):
        found = word_of_call(check_operation, operation)
        if found is None:
            self.assertIsNone(check_operation(operation))
        return found

    def test_paths(self):
        one = "mkdir rmdir unlink readlink readdir stat lstat open_file".split()
        for text in ("", "a", "/a/", "//", "/.", "/a" * 17, "/" + "n" * 33):
            for word in one:
                self.assertEqual(self.word(word, text), "invalidpath")
            self.assertEqual(self.word("write", text, -1, [0] * 6000), "invalidpath")
            self.assertEqual(self.word("read", text, -1, -1), "invalidpath")
            self.assertEqual(self.word("truncate", text, -1), "invalidpath")
            for word in ("rename", "link"):
                self.assertEqual(self.word(word, text, "/a"), "invalidpath")
                self.assertEqual(self.word(word, "/a", text), "invalidpath")
            self.assertEqual(self.word("symlink", "a", text), "invalidpath")
        for word in one:
            for text in ("/", "/a", "/a" * 16):
                self.assertIsNone(self.word(word, text))
        for word in ("rename", "link"):
            self.assertIsNone(self.word(word, "/", "/a"))

    def test_targets(self):
        for text in ("", "a/", "/a/", ".", "a b", "a/" * 16 + "a"):
            self.assertEqual(self.word("symlink", text, "/a"), "invalidtarget")
            self.assertEqual(self.word("symlink", text, "a"), "invalidtarget")
        for text in ("/", "a", "a/b", "/a/b"):
            self.assertIsNone(self.word("symlink", text, "/a"))

    def test_offsets(self):
        for offset, word in ((-1, "invalidoffset"), (0, None), (LONG, None), (LONG + 1, "invalidoffset")):
            self.assertEqual(self.word("write", "/a", offset, [0]), word)
            self.assertEqual(self.word("read", "/a", offset, 0), word)
            self.assertEqual(self.word("read_at", 0, offset, 0), word)
            self.assertEqual(self.word("write_at", 15, offset, []), word)

    def test_lengths(self):
        for length, word in ((-1, "invalidlength"), (0, None), (LONG, None), (LONG + 1, "invalidlength")):
            self.assertEqual(self.word("read", "/a", 0, length), word)
            self.assertEqual(self.word("truncate", "/a", length), word)
            self.assertEqual(self.word("read_at", 0, 0, length), word)
            self.assertEqual(self.word("resize", 0, length), word)

    def test_octets(self):
        for many, word in ((0, None), (MOST, None), (MOST + 1, "toomanyoctets")):
            self.assertEqual(self.word("write", "/a", 0, [1] * many), word)
            self.assertEqual(self.word("write_at", 0, 0, [1] * many), word)

    def test_handles(self):
        for handle, word in ((-1, "notopen"), (0, None), (15, None), (16, "notopen")):
            for operation in (
                ("close_file", handle),
                ("read_at", handle, 0, 0),
                ("write_at", handle, 0, []),
                ("resize", handle, 0),
                ("stat_at", handle),
            ):
                self.assertEqual(self.word(*operation), word)

    def test_from_left_to_right(self):
        self.assertEqual(self.word("write", "/a", -1, [0] * 6000), "invalidoffset")
        self.assertEqual(self.word("read", "/a", -1, -1), "invalidoffset")
        self.assertEqual(self.word("read", "/a", 0, -1), "invalidlength")
        self.assertEqual(self.word("read_at", 16, -1, -1), "notopen")
        self.assertEqual(self.word("read_at", 0, -1, -1), "invalidoffset")
        self.assertEqual(self.word("write_at", -1, -1, [0] * 6000), "notopen")
        self.assertEqual(self.word("write_at", 3, -1, [0] * 6000), "invalidoffset")
        self.assertEqual(self.word("resize", 16, -1), "notopen")

    def test_arguments_before_the_steps(self):
        tree = rich_tree()
        self.assertEqual(refused(tree, "truncate", "/nothing", -1), "invalidlength")
        self.assertEqual(refused(tree, "read_at", 3, LONG + 1, 0), "invalidoffset")


class NewNodes(Checked):
    """Point 71, by mkdir and symlink."""

    def test_new_directories_and_links(self):
        tree = FileTree()
        self.assertIsNone(result(tree, "mkdir", "/d"))
        self.assertIsNone(result(tree, "symlink", "x/y", "/d/l"))
        self.assertEqual(
            told(tree)[0],
            {0: ("directory", (("d", 1),), 1), 1: ("directory", (("l", 2),), 1), 2: ("link", "x/y", 1)},
        )

    def test_errors(self):
        for word, *first in (("mkdir",), ("symlink", "a")):
            self.check(
                rich_tree(),
                [
                    (word, *first, "/", "rootfixed"),
                    (word, *first, "/x/y", "notfound"),
                    (word, *first, "/f/y", "notdirectory"),
                    (word, *first, "/l/y", "notdirectory"),
                    (word, *first, "/lost/y", "notfound"),
                    (word, *first, "/round/y", "toomanylinks"),
                    (word, *first, "/d", "alreadyexists"),
                    (word, *first, "/f", "alreadyexists"),
                    (word, *first, "/lost", "alreadyexists"),
                    (word, *first, "/ld/e", "alreadyexists"),
                ],
            )

    def test_through_links(self):
        tree = rich_tree()
        result(tree, "mkdir", "/ld/new")
        self.assertEqual(tree.entry(1, "new"), 9)

    def test_64_entries(self):
        tree = made(*full_directory("/d", 63))
        self.assertIsNone(refused(tree.copied(), "mkdir", "/d/x"))
        result(tree, "mkdir", "/d/x")
        self.check(
            tree,
            [
                ("mkdir", "/d/y", "directoryfull"),
                ("symlink", "a", "/d/y", "directoryfull"),
                ("write", "/d/y", 0, [1], "directoryfull"),
                ("mkdir", "/d/x", "alreadyexists"),
                ("symlink", "a", "/d/x", "alreadyexists"),
            ],
        )
        self.assertEqual(tree.nodes[1].measure(), 64)

    def test_256_numbers(self):
        tree = tree_of_numbers(256)
        rows = [("mkdir", "/x"), ("symlink", "a", "/x"), ("write", "/x", 0, [1])]
        self.check(tree, [(*row, "toomanyfiles") for row in rows])
        self.check(tree, [("mkdir", "/m1", "alreadyexists")])
        result(tree, "link", "/m1/f005", "/m1/x")
        self.assertEqual(tree.nodes[1].measure(), 64)
        self.check(tree, [("mkdir", "/m1/y", "directoryfull"), ("mkdir", "/m4/y", "toomanyfiles")])
        for row in rows:
            self.assertIsNone(refused(tree_of_numbers(255), *row))
        last = tree_of_numbers(255)
        result(last, "mkdir", "/x")
        self.assertEqual(last.entry(0, "x"), 255)

    def test_least_number(self):
        tree = made(*[("mkdir", f"/d{at}") for at in range(1, 6)])
        made(("rmdir", "/d2"), ("rmdir", "/d4"), tree=tree)
        made(("write", "/a", 0, []), ("symlink", "x", "/b"), ("mkdir", "/c"), tree=tree)
        self.assertEqual([tree.entry(0, name) for name in "abc"], [2, 4, 6])

    def test_order_of_names(self):
        names = ["ab", "a", "B", "_", "-", ".x", "0", "abc", "b", "a-"]
        tree = made(*[("mkdir", "/" + name) for name in names])
        expected = ["-", ".x", "0", "B", "_", "a", "a-", "ab", "abc", "b"]
        self.assertEqual(result(tree, "readdir", "/"), expected)
        self.assertEqual([name for name, number in tree.nodes[0].body], expected)
        self.assertEqual(tree.entry(0, "abc"), 8)


class Rmdir(Checked):
    def test_removes(self):
        tree = rich_tree()
        self.assertIsNone(result(tree, "rmdir", "/ld/e"))
        self.assertNotIn(2, tree.nodes)
        self.assertEqual(tree.nodes[1].body, (("g", 4),))

    def test_errors(self):
        self.check(
            rich_tree(),
            [
                ("rmdir", "/", "rootfixed"),
                ("rmdir", "/x", "notfound"),
                ("rmdir", "/x/y", "notfound"),
                ("rmdir", "/f/y", "notdirectory"),
                ("rmdir", "/f", "notdirectory"),
                ("rmdir", "/ld", "notdirectory"),
                ("rmdir", "/lost", "notdirectory"),
                ("rmdir", "/d", "notempty"),
            ],
        )


class Write(Checked):
    """Points 69 and 72."""

    def body(self, *operations):
        return made(*operations).nodes[1].body

    def test_new_files(self):
        tree = FileTree()
        octets = [1, 2]
        self.assertIsNone(result(tree, "write", "/a", 0, octets))
        octets[0] = 9
        self.assertEqual(tree.nodes[1], Node("file", (1, 2)))
        self.assertEqual(self.body(("write", "/a", 3, [7])), (0, 0, 0, 7))

    def test_no_octets(self):
        for offset in (0, 5, LONG):
            self.assertEqual(self.body(("write", "/a", offset, [])), ())
            self.assertEqual(self.body(("write", "/a", 0, [1, 2]), ("write", "/a", offset, [])), (1, 2))

    def test_inside_at_the_end_and_beyond(self):
        first = ("write", "/a", 0, [1, 2, 3, 4])
        for offset, octets, body in (
            (0, [9], (9, 2, 3, 4)),
            (1, [8, 9], (1, 8, 9, 4)),
            (3, [8, 9], (1, 2, 3, 8, 9)),
            (4, [9], (1, 2, 3, 4, 9)),
            (6, [9], (1, 2, 3, 4, 0, 0, 9)),
            (0, [5, 6, 7, 8, 9], (5, 6, 7, 8, 9)),
        ):
            self.assertEqual(self.body(first, ("write", "/a", offset, octets)), body)

    def test_28672_octets(self):
        tree = made(("write", "/a", LONG - 2, [7, 8]))
        self.assertEqual((tree.nodes[1].measure(), tree.nodes[1].body[-3:]), (LONG, (0, 7, 8)))
        self.check(
            tree,
            [
                ("write", "/a", LONG, [1], "filetoolarge"),
                ("write", "/a", LONG - 1, [1, 2], "filetoolarge"),
                ("write", "/a", LONG - MOST + 1, [1] * MOST, "filetoolarge"),
                ("write", "/b", LONG, [1], "filetoolarge"),
                ("write", "/b", LONG - 1, [1, 2], "filetoolarge"),
            ],
        )
        result(tree, "write", "/a", LONG - 1, [5])
        self.assertEqual((tree.nodes[1].measure(), tree.nodes[1].body[-2:]), (LONG, (7, 5)))
        result(tree, "write", "/b", LONG - MOST, [1] * MOST)
        self.assertEqual(tree.nodes[2].measure(), LONG)

    def test_through_links(self):
        tree = rich_tree()
        result(tree, "write", "/l", 1, [8])
        result(tree, "write", "/ld/new", 0, [5])
        self.assertEqual((tree.nodes[3].body, tree.nodes[9].body), ((1, 8, 3), (5,)))

    def test_errors(self):
        self.check(
            rich_tree(),
            [
                ("write", "/", 0, [1], "isdirectory"),
                ("write", "/d", 0, [], "isdirectory"),
                ("write", "/ld", 0, [1], "isdirectory"),
                ("write", "/lost", 0, [1], "notfound"),
                ("write", "/lost", LONG, [1], "notfound"),
                ("write", "/x/y", 0, [1], "notfound"),
                ("write", "/x/y", LONG, [1], "notfound"),
                ("write", "/lost/y", 0, [1], "notfound"),
                ("write", "/f/y", 0, [1], "notdirectory"),
                ("write", "/l/y", 0, [1], "notdirectory"),
                ("write", "/round", 0, [1], "toomanylinks"),
                ("write", "/round/y", 0, [1], "toomanylinks"),
            ],
        )

    def test_link_that_leads_nowhere_in_a_full_directory(self):
        tree = made(*full_directory("/d", 63), ("symlink", "x", "/d/lost"))
        self.check(tree, [("write", "/d/lost", 0, [1], "notfound"), ("write", "/d/lost", LONG, [1], "notfound")])

    def test_too_large_before_a_full_directory(self):
        tree = made(*full_directory())
        self.check(tree, [("write", "/d/y", LONG, [1], "filetoolarge"), ("write", "/d/y", LONG, [], "directoryfull")])
        self.check(tree_of_numbers(256), [("write", "/y", LONG, [1], "filetoolarge")])

    def test_link_to_a_missing_entry_of_a_directory(self):
        tree = made(("mkdir", "/d"), ("symlink", "d/x", "/l"))
        self.check(tree, [("write", "/l", 0, [1], "notfound")])

    def test_9_links(self):
        tree = made(*chain_of_links(9))
        result(tree, "write", "/l8", 0, [4])
        self.assertEqual(tree.nodes[1].body, (4,))
        self.check(tree, [("write", "/l9", 0, [4], "toomanylinks")])


class ReadAndTruncate(Checked):
    def test_reads(self):
        tree = rich_tree()
        for offset, length, octets in (
            (0, 3, [1, 2, 3]),
            (0, LONG, [1, 2, 3]),
            (1, 1, [2]),
            (2, 5, [3]),
            (3, 1, []),
            (LONG, LONG, []),
            (0, 0, []),
        ):
            self.assertEqual(result(tree, "read", "/l", offset, length), octets)
        self.assertIsInstance(result(tree, "read", "/f", 0, 3), list)
        result(tree, "read", "/f", 0, 3).clear()
        self.assertEqual(tree.nodes[3].body, (1, 2, 3))

    def test_truncates(self):
        for length, body in ((0, ()), (2, (1, 2)), (3, (1, 2, 3)), (5, (1, 2, 3, 0, 0))):
            tree = rich_tree()
            self.assertIsNone(result(tree, "truncate", "/l", length))
            self.assertEqual(tree.nodes[3].body, body)
        result(tree, "truncate", "/f", LONG)
        self.assertEqual(tree.nodes[3].body, (1, 2, 3) + (0,) * (LONG - 3))

    def test_octets_behind_the_end_are_gone(self):
        tree = made(("write", "/a", 0, [1, 2, 3]), ("truncate", "/a", 1), ("truncate", "/a", 3))
        self.assertEqual(tree.nodes[1].body, (1, 0, 0))

    def test_errors(self):
        for word, *rest in (("read", 0, 1), ("truncate", 1), ("open_file",)):
            rows = [("/", "isdirectory"), ("/d", "isdirectory"), ("/ld", "isdirectory"), ("/x", "notfound")]
            rows += [("/lost", "notfound"), ("/f/y", "notdirectory"), ("/round", "toomanylinks")]
            self.check(rich_tree(), [(word, path, *rest, error) for path, error in rows])


class Links(Checked):
    def test_more_names(self):
        tree = rich_tree()
        self.assertIsNone(result(tree, "link", "/f", "/d/e/h"))
        self.assertEqual((tree.entry(2, "h"), tree.nodes[3].links), (3, 2))
        # A link is not followed, so it gets another name itself.
        result(tree, "link", "/l", "/k")
        self.assertEqual((tree.entry(0, "k"), tree.nodes[5].links, tree.nodes[3].links), (5, 2, 2))

    def test_errors(self):
        self.check(
            rich_tree(),
            [
                ("link", "/", "/n", "rootfixed"),
                ("link", "/x", "/n", "notfound"),
                ("link", "/x", "/", "notfound"),
                ("link", "/f/y", "/n", "notdirectory"),
                ("link", "/d", "/n", "isdirectory"),
                ("link", "/d", "/", "isdirectory"),
                ("link", "/d", "/d", "isdirectory"),
                ("link", "/f", "/", "rootfixed"),
                ("link", "/f", "/x/n", "notfound"),
                ("link", "/f", "/f/n", "notdirectory"),
                ("link", "/f", "/f", "alreadyexists"),
                ("link", "/f", "/d", "alreadyexists"),
                ("link", "/f", "/lost", "alreadyexists"),
                ("link", "/f", "/round/n", "toomanylinks"),
            ],
        )

    def test_full_directory(self):
        tree = made(*full_directory())
        self.check(tree, [("link", "/d/e0", "/d/n", "directoryfull"), ("link", "/d/e0", "/d/e1", "alreadyexists")])
        self.assertIsNone(refused(tree, "link", "/d/e0", "/n"))
        self.assertEqual(tree.nodes[2].links, 65)

    def test_readlink(self):
        tree = rich_tree()
        for path, target in (("/l", "/f"), ("/lost", "nowhere"), ("/ld", "d"), ("/round", "round")):
            self.assertEqual(result(tree, "readlink", path), target)
        rows = [("/", "rootfixed"), ("/f", "notlink"), ("/d", "notlink"), ("/x", "notfound"), ("/f/y", "notdirectory")]
        self.check(tree, [("readlink", path, word) for path, word in rows])


class Unlink(Checked):
    """Points 69 and 74."""

    def test_last_name(self):
        tree = rich_tree()
        self.assertIsNone(result(tree, "unlink", "/f"))
        self.assertNotIn(3, tree.nodes)
        self.assertIsNone(tree.entry(0, "f"))
        # The link itself goes, not what it leads to.
        result(tree, "unlink", "/ld")
        self.assertEqual((7 in tree.nodes, 1 in tree.nodes), (False, True))

    def test_one_of_several_names(self):
        tree = rich_tree()
        made(("link", "/f", "/h"), ("unlink", "/f"), tree=tree)
        self.assertEqual((tree.nodes[3], tree.entry(0, "h")), (Node("file", (1, 2, 3)), 3))

    def test_errors(self):
        rows = [("/", "rootfixed"), ("/d", "isdirectory"), ("/d/e", "isdirectory"), ("/x", "notfound")]
        rows += [("/f/y", "notdirectory"), ("/x/y", "notfound"), ("/round/y", "toomanylinks")]
        self.check(rich_tree(), [("unlink", path, word) for path, word in rows])

    def test_open_file(self):
        tree = made(("open_file", "/f"), ("open_file", "/f"), ("unlink", "/f"), tree=rich_tree())
        self.assertEqual(tree.nodes[3], Node("file", (1, 2, 3), links=0))
        self.assertEqual(result(tree, "stat_at", 0), ("file", 3, 0, 3))
        made(("write_at", 1, 3, [4]), ("close_file", 0), tree=tree)
        self.assertEqual(result(tree, "read_at", 1, 0, 9), [1, 2, 3, 4])
        # Its number stays in use.
        made(("mkdir", "/new"), tree=tree)
        self.assertEqual(tree.entry(0, "new"), 9)
        made(("close_file", 1), tree=tree)
        self.assertNotIn(3, tree.nodes)


class Rename(Checked):
    """Point 73."""

    def test_to_a_new_name(self):
        tree = rich_tree()
        self.assertIsNone(result(tree, "rename", "/f", "/d/e/h"))
        self.assertEqual((tree.entry(0, "f"), tree.entry(2, "h"), tree.nodes[3].links), (None, 3, 1))
        result(tree, "rename", "/d/e", "/e")
        self.assertEqual((tree.entry(1, "e"), tree.entry(0, "e"), tree.entry(2, "h")), (None, 2, 3))
        result(tree, "rename", "/ld", "/lk")
        self.assertEqual((tree.entry(0, "lk"), tree.entry(0, "ld")), (7, None))

    def test_onto_itself_and_another_name(self):
        tree = made(("link", "/f", "/h"), tree=rich_tree())
        before = told(tree)
        for source, target in (("/f", "/f"), ("/f", "/h"), ("/h", "/f"), ("/d", "/d"), ("/d/g", "/ld/g"), ("/l", "/l")):
            self.assertIsNone(result(tree, "rename", source, target))
            self.assertEqual(told(tree), before)

    def test_onto_files_and_links(self):
        tree = rich_tree()
        result(tree, "rename", "/f", "/d/g")
        self.assertEqual((4 in tree.nodes, tree.entry(1, "g"), tree.nodes[3].links), (False, 3, 1))
        result(tree, "rename", "/d/g", "/lost")
        self.assertEqual((6 in tree.nodes, tree.entry(0, "lost")), (False, 3))
        result(tree, "rename", "/ld", "/lost")
        self.assertEqual((3 in tree.nodes, tree.entry(0, "lost")), (False, 7))

    def test_onto_an_open_file(self):
        tree = made(("open_file", "/d/g"), ("rename", "/f", "/d/g"), tree=rich_tree())
        self.assertEqual(tree.nodes[4], Node("file", (9,), links=0))
        made(("close_file", 0), tree=tree)
        self.assertNotIn(4, tree.nodes)

    def test_onto_one_of_several_names(self):
        tree = made(("link", "/d/g", "/k"), ("rename", "/f", "/d/g"), tree=rich_tree())
        self.assertEqual((tree.nodes[4].links, tree.entry(0, "k")), (1, 4))

    def test_onto_directories(self):
        tree = made(("mkdir", "/o"), ("mkdir", "/o/p"), ("mkdir", "/q"), tree=rich_tree())
        self.check(
            tree,
            [
                ("rename", "/f", "/d/e", "isdirectory"),
                ("rename", "/f", "/d", "isdirectory"),
                ("rename", "/l", "/d/e", "isdirectory"),
                ("rename", "/o", "/d", "notempty"),
                ("rename", "/d", "/f", "notdirectory"),
                ("rename", "/d", "/l", "notdirectory"),
                ("rename", "/d", "/ld", "notdirectory"),
                ("rename", "/o/p", "/o", "notempty"),
            ],
        )
        result(tree, "rename", "/o", "/d/e")
        self.assertEqual((2 in tree.nodes, tree.entry(1, "e"), tree.entry(0, "o"), tree.entry(9, "p")), (False, 9, None, 10))
        self.assertEqual(tree.nodes[9].links, 1)

    def test_within_itself(self):
        tree = made(("mkdir", "/d/e/i"), ("symlink", "/d/e", "/le"), tree=rich_tree())
        self.check(
            tree,
            [
                ("rename", "/d", "/d/x", "withinitself"),
                ("rename", "/d", "/d/e", "withinitself"),
                ("rename", "/d", "/d/e/x", "withinitself"),
                ("rename", "/d", "/d/e/i/x", "withinitself"),
                ("rename", "/d", "/le/x", "withinitself"),
                ("rename", "/d", "/ld/g", "withinitself"),
                ("rename", "/d/e", "/d/e/i", "withinitself"),
            ],
        )
        self.assertIsNone(refused(tree, "rename", "/d/e", "/d/x"))
        # A link that leads to a directory is no directory.
        self.assertIsNone(refused(tree, "rename", "/ld", "/d/x/l"))

    def test_errors(self):
        self.check(
            rich_tree(),
            [
                ("rename", "/", "/n", "rootfixed"),
                ("rename", "/x", "/", "notfound"),
                ("rename", "/f/y", "/n", "notdirectory"),
                ("rename", "/f", "/", "rootfixed"),
                ("rename", "/d", "/", "rootfixed"),
                ("rename", "/f", "/x/n", "notfound"),
                ("rename", "/f", "/f/n", "notdirectory"),
                ("rename", "/d", "/f/n", "notdirectory"),
                ("rename", "/f", "/round/n", "toomanylinks"),
            ],
        )

    def test_full_directories(self):
        tree = made(*full_directory(), ("mkdir", "/k"), ("write", "/f", 0, []))
        self.check(tree, [("rename", "/f", "/d/n", "directoryfull"), ("rename", "/k", "/d/n", "directoryfull")])
        # Within one directory, and onto an entry, there is room.
        self.assertIsNone(refused(tree, "rename", "/d/e1", "/d/n"))
        self.assertIsNone(refused(tree, "rename", "/f", "/d/e2"))
        self.assertEqual((tree.nodes[1].measure(), tree.entry(1, "e2"), tree.nodes[2].links), (64, 4, 63))
        self.check(tree, [("rename", "/k", "/d/e2", "notdirectory")])

    def test_order_behind_a_rename(self):
        tree = made(*[("mkdir", "/" + name) for name in "bdf"], ("rename", "/b", "/e"), ("rename", "/f", "/a"))
        self.assertEqual(tree.nodes[0].body, (("a", 3), ("d", 2), ("e", 1)))


class Handles(Checked):
    def test_least_handle(self):
        tree = rich_tree()
        self.assertEqual([result(tree, "open_file", path) for path in ("/f", "/d/g", "/l")], [0, 1, 2])
        self.assertEqual(tree.handles[:4], [3, 4, 3, None])
        self.assertIsNone(result(tree, "close_file", 1))
        self.assertEqual([result(tree, "open_file", "/f") for _ in range(2)], [1, 3])

    def test_16_and_17_handles(self):
        tree = rich_tree()
        self.assertEqual([result(tree, "open_file", "/f") for _ in range(16)], list(range(16)))
        self.check(tree, [("open_file", "/f", "toomanyopen"), ("open_file", "/d", "isdirectory")])
        result(tree, "close_file", 15)
        self.assertEqual(result(tree, "open_file", "/f"), 15)

    def test_handles_that_are_not_in_use(self):
        tree = made(("open_file", "/f"), ("open_file", "/f"), ("close_file", 0), tree=rich_tree())
        for handle in (-1, 0, 2, 15, 16):
            self.check(
                tree,
                [
                    ("close_file", handle, "notopen"),
                    ("read_at", handle, 0, 0, "notopen"),
                    ("write_at", handle, 0, [], "notopen"),
                    ("write_at", handle, LONG, [1], "notopen"),
                    ("resize", handle, 0, "notopen"),
                    ("stat_at", handle, "notopen"),
                ],
            )

    def test_reads_and_writes(self):
        tree = made(("open_file", "/f"), tree=rich_tree())
        self.assertIsNone(result(tree, "write_at", 0, 4, [7]))
        self.assertEqual(result(tree, "read_at", 0, 1, 9), [2, 3, 0, 7])
        self.assertEqual(result(tree, "read", "/f", 4, 1), [7])
        result(tree, "write_at", 0, LONG, [])
        self.assertIsNone(result(tree, "resize", 0, 2))
        self.assertEqual(result(tree, "stat_at", 0), ("file", 3, 1, 2))
        result(tree, "resize", 0, 4)
        self.assertEqual(tree.nodes[3].body, (1, 2, 0, 0))
        self.check(tree, [("write_at", 0, LONG, [1], "filetoolarge"), ("write_at", 0, LONG - 1, [1, 2], "filetoolarge")])

    def test_handles_follow_renames(self):
        tree = made(("open_file", "/f"), ("rename", "/f", "/d/h"), ("write", "/f", 0, [8]), tree=rich_tree())
        self.assertEqual(result(tree, "read_at", 0, 0, 9), [1, 2, 3])
        self.assertEqual(result(tree, "stat_at", 0), ("file", 3, 1, 3))


class Status(Checked):
    """Point 75."""

    def test_each_kind(self):
        tree = made(("link", "/f", "/h"), ("link", "/lost", "/lost2"), tree=rich_tree())
        for path, status in (
            ("/", ("directory", 0, 1, 8)),
            ("/d", ("directory", 1, 1, 2)),
            ("/ld", ("directory", 1, 1, 2)),
            ("/ld/e", ("directory", 2, 1, 0)),
            ("/h", ("file", 3, 2, 3)),
            ("/l", ("file", 3, 2, 3)),
        ):
            self.assertEqual(result(tree, "stat", path), status)
        for path, status in (
            ("/", ("directory", 0, 1, 8)),
            ("/d", ("directory", 1, 1, 2)),
            ("/ld", ("link", 7, 1, 1)),
            ("/l", ("link", 5, 1, 2)),
            ("/lost", ("link", 6, 2, 7)),
            ("/round", ("link", 8, 1, 5)),
        ):
            self.assertEqual(result(tree, "lstat", path), status)

    def test_errors(self):
        rows = [("/x", "notfound"), ("/lost", "notfound"), ("/f/y", "notdirectory"), ("/round", "toomanylinks")]
        self.check(rich_tree(), [("stat", path, word) for path, word in rows])
        rows = [("/x", "notfound"), ("/lost/x", "notfound"), ("/f/y", "notdirectory"), ("/round/y", "toomanylinks")]
        self.check(rich_tree(), [("lstat", path, word) for path, word in rows])

    def test_readdir(self):
        tree = rich_tree()
        self.assertEqual(result(tree, "readdir", "/ld"), ["e", "g"])
        self.assertEqual(result(tree, "readdir", "/d/e"), [])
        result(tree, "readdir", "/ld").clear()
        self.assertEqual(result(tree, "readdir", "/"), ["d", "f", "l", "ld", "lost", "round"])
        rows = [("/f", "notdirectory"), ("/l", "notdirectory"), ("/x", "notfound"), ("/round", "toomanylinks")]
        self.check(tree, [("readdir", path, word) for path, word in rows])


class WhatIsKept(unittest.TestCase):
    """Points 69 and 76."""

    def test_results(self):
        tree = made(("open_file", "/f"), tree=rich_tree())
        for operation in (
            ("mkdir", "/n"),
            ("rmdir", "/n"),
            ("write", "/n", 0, []),
            ("truncate", "/n", 1),
            ("rename", "/n", "/o"),
            ("link", "/o", "/n"),
            ("unlink", "/o"),
            ("symlink", "x", "/o"),
            ("write_at", 0, 0, [1]),
            ("resize", 0, 0),
            ("close_file", 0),
        ):
            self.assertIsNone(result(tree, *operation), operation)

    def test_reading_changes_nothing(self):
        tree = made(("open_file", "/f"), tree=rich_tree())
        before = told(tree)
        for operation in (
            ("read", "/f", 0, 9),
            ("readlink", "/l"),
            ("readdir", "/"),
            ("stat", "/f"),
            ("lstat", "/l"),
            ("read_at", 0, 0, 9),
            ("stat_at", 0),
        ):
            result(tree, *operation)
            self.assertEqual(told(tree), before)

    def test_nodes_are_replaced(self):
        tree = rich_tree()
        node = tree.nodes[3]
        root = tree.nodes[0]
        made(("write", "/f", 0, [9]), ("link", "/f", "/k"), ("mkdir", "/n"), tree=tree)
        self.assertEqual((node.body, node.links, root.measure()), ((1, 2, 3), 1, 6))

    def test_longer_paths_than_arguments(self):
        tree = FileTree()
        for depth in range(20):
            self.assertIsNone(make_operation(tree, ("mkdir", "/n" * (depth + 1))))
        make_operation(tree, ("write", "/n" * 20 + "/f", 0, [1]))
        self.assertEqual(make_operation(tree, ("read", "/n" * 20 + "/f", 0, 9)), [1])

    def test_lists_of_the_caller_stay(self):
        tree = FileTree()
        octets = [1, 2, 3]
        operation = ("write", "/a", 1, octets)
        result(tree, *operation)
        self.assertEqual(octets, [1, 2, 3])


if __name__ == "__main__":
    unittest.main()
