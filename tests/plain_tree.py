"""A plain tree of files, which makes the operations as the points 66 to 76 word them."""

import copy
import re


class Refused(Exception):
    """An operation is refused; its only argument is the word of the error."""


def right_name(text):
    return re.fullmatch(r"[A-Za-z0-9_.-]{1,32}", text) is not None and text.strip(".") != ""


def right_path(text):
    if text == "/":
        return True
    names = text.split("/")
    return len(text) <= 256 and names[0] == "" and 1 <= len(names) - 1 <= 16 and all(right_name(one) for one in names[1:])


def right_target(text):
    names = text.split("/")
    return right_path(text) or (len(text) <= 256 and len(names) <= 16 and all(right_name(one) for one in names))


def refuse_if(condition, word):
    if condition:
        raise Refused(word)


class PlainTree:
    """`nodes` is a dict from numbers to [kind, body, links]; a file has a list, a directory a dict, a link a string."""

    def __init__(self):
        self.nodes = {0: ["directory", {}, 1]}
        self.handles = [None] * 16

    def told(self):
        """The nodes in the form of the program."""
        found = {}
        for number, (kind, body, links) in self.nodes.items():
            shown = {"file": tuple, "directory": lambda entries: tuple(sorted(entries.items())), "link": str}[kind](body)
            found[number] = (kind, shown, links)
        return found, list(self.handles)

    def copied(self):
        found = PlainTree()
        found.nodes = {number: [kind, copy.copy(body), links] for number, (kind, body, links) in self.nodes.items()}
        found.handles = list(self.handles)
        return found

    def make(self, operation, checked=True):
        """The result of an operation; nothing changes if it is refused."""
        saved = self.copied()
        try:
            if checked:
                self.check(operation)
            return getattr(self, "do_" + operation[0])(*operation[1:])
        except Refused:
            self.nodes = saved.nodes
            self.handles = saved.handles
            raise

    def check(self, operation):
        word = operation[0]
        kinds = {
            "write": "path offset octets",
            "read": "path offset length",
            "truncate": "path length",
            "rename": "path path",
            "link": "path path",
            "symlink": "target path",
            "close_file": "handle",
            "read_at": "handle offset length",
            "write_at": "handle offset octets",
            "resize": "handle length",
            "stat_at": "handle",
        }.get(word, "path")
        for kind, argument in zip(kinds.split(), operation[1:]):
            if kind == "path":
                refuse_if(not right_path(argument), "invalidpath")
            elif kind == "target":
                refuse_if(not right_target(argument), "invalidtarget")
            elif kind == "offset":
                refuse_if(argument < 0 or argument > 28672, "invalidoffset")
            elif kind == "length":
                refuse_if(argument < 0 or argument > 28672, "invalidlength")
            elif kind == "octets":
                refuse_if(len(argument) > 5376, "toomanyoctets")
            else:
                refuse_if(argument < 0 or argument > 15, "notopen")

    def follow(self, path):
        left = [name for name in path.split("/") if name]
        here = 0
        links = 0
        while left:
            refuse_if(self.nodes[here][0] != "directory", "notdirectory")
            refuse_if(left[0] not in self.nodes[here][1], "notfound")
            number = self.nodes[here][1][left.pop(0)]
            if self.nodes[number][0] == "link":
                refuse_if(links == 8, "toomanylinks")
                links += 1
                target = self.nodes[number][1]
                left = [name for name in target.split("/") if name] + left
                here = 0 if target[0] == "/" else here
            else:
                here = number
        return here

    def place(self, path):
        refuse_if(path == "/", "rootfixed")
        above, name = path.rsplit("/", 1)
        here = self.follow(above)
        refuse_if(self.nodes[here][0] != "directory", "notdirectory")
        return here, name

    def entry(self, path):
        here, name = self.place(path)
        refuse_if(name not in self.nodes[here][1], "notfound")
        return here, name, self.nodes[here][1][name]

    def add(self, path, kind, body):
        here, name = self.place(path)
        refuse_if(name in self.nodes[here][1], "alreadyexists")
        refuse_if(len(self.nodes[here][1]) == 64, "directoryfull")
        unused = [number for number in range(256) if number not in self.nodes]
        refuse_if(not unused, "toomanyfiles")
        self.nodes[unused[0]] = [kind, body, 1]
        self.nodes[here][1][name] = unused[0]
        return unused[0]

    def lose(self, number):
        self.nodes[number][2] -= 1
        self.forget(number)

    def forget(self, number):
        if self.nodes[number][2] == 0 and number not in self.handles:
            del self.nodes[number]

    def status(self, number):
        kind, body, links = self.nodes[number]
        return kind, number, links, len(body)

    def file_at(self, path):
        number = self.follow(path)
        refuse_if(self.nodes[number][0] != "file", "isdirectory")
        return number

    def file_of(self, handle):
        refuse_if(self.handles[handle] is None, "notopen")
        return self.handles[handle]

    def put_octets(self, number, offset, octets):
        body = self.nodes[number][1]
        if octets:
            refuse_if(offset + len(octets) > 28672, "filetoolarge")
            body.extend([0] * (offset - len(body)))
            body[offset : offset + len(octets)] = octets

    def cut(self, number, length):
        body = self.nodes[number][1]
        body.extend([0] * (length - len(body)))
        del body[length:]

    def do_mkdir(self, path):
        self.add(path, "directory", {})

    def do_rmdir(self, path):
        here, name, number = self.entry(path)
        refuse_if(self.nodes[number][0] != "directory", "notdirectory")
        refuse_if(self.nodes[number][1], "notempty")
        del self.nodes[here][1][name]
        del self.nodes[number]

    def do_write(self, path, offset, octets):
        try:
            number = self.follow(path)
        except Refused as refusal:
            if refusal.args[0] != "notfound":
                raise
            here, name = self.place(path)
            refuse_if(name in self.nodes[here][1], "notfound")
            refuse_if(octets and offset + len(octets) > 28672, "filetoolarge")
            number = self.add(path, "file", [])
        refuse_if(self.nodes[number][0] != "file", "isdirectory")
        self.put_octets(number, offset, octets)

    def do_read(self, path, offset, length):
        return self.nodes[self.file_at(path)][1][offset : offset + length]

    def do_truncate(self, path, length):
        self.cut(self.file_at(path), length)

    def below(self, number):
        found = {number}
        for child in self.nodes[number][1].values() if self.nodes[number][0] == "directory" else []:
            found |= self.below(child)
        return found

    def do_rename(self, source, target):
        here, name, number = self.entry(source)
        there, new = self.place(target)
        directory = self.nodes[number][0] == "directory"
        refuse_if(directory and there in self.below(number), "withinitself")
        if new not in self.nodes[there][1]:
            refuse_if(there != here and len(self.nodes[there][1]) == 64, "directoryfull")
        else:
            other = self.nodes[there][1][new]
            if other == number:
                return
            if self.nodes[other][0] == "directory":
                refuse_if(not directory, "isdirectory")
                refuse_if(self.nodes[other][1], "notempty")
                del self.nodes[other]
            else:
                refuse_if(directory, "notdirectory")
                self.lose(other)
        del self.nodes[here][1][name]
        self.nodes[there][1][new] = number

    def do_link(self, source, target):
        _, _, number = self.entry(source)
        refuse_if(self.nodes[number][0] == "directory", "isdirectory")
        there, name = self.place(target)
        refuse_if(name in self.nodes[there][1], "alreadyexists")
        refuse_if(len(self.nodes[there][1]) == 64, "directoryfull")
        self.nodes[there][1][name] = number
        self.nodes[number][2] += 1

    def do_unlink(self, path):
        here, name, number = self.entry(path)
        refuse_if(self.nodes[number][0] == "directory", "isdirectory")
        del self.nodes[here][1][name]
        self.lose(number)

    def do_symlink(self, target, path):
        self.add(path, "link", target)

    def do_readlink(self, path):
        number = self.entry(path)[2]
        refuse_if(self.nodes[number][0] != "link", "notlink")
        return self.nodes[number][1]

    def do_readdir(self, path):
        number = self.follow(path)
        refuse_if(self.nodes[number][0] != "directory", "notdirectory")
        return sorted(self.nodes[number][1])

    def do_stat(self, path):
        return self.status(self.follow(path))

    def do_lstat(self, path):
        return self.status(0 if path == "/" else self.entry(path)[2])

    def do_open_file(self, path):
        number = self.file_at(path)
        refuse_if(None not in self.handles, "toomanyopen")
        handle = self.handles.index(None)
        self.handles[handle] = number
        return handle

    def do_close_file(self, handle):
        number = self.file_of(handle)
        self.handles[handle] = None
        self.forget(number)

    def do_read_at(self, handle, offset, length):
        return self.nodes[self.file_of(handle)][1][offset : offset + length]

    def do_write_at(self, handle, offset, octets):
        self.put_octets(self.file_of(handle), offset, octets)

    def do_resize(self, handle, length):
        self.cut(self.file_of(handle), length)

    def do_stat_at(self, handle):
        return self.status(self.file_of(handle))


def plain_values(tree):
    """The keys and values of a plain tree (point 77)."""
    values = {}
    for number, (kind, body, links) in tree.nodes.items():
        octets = list(body) if kind == "file" else [ord(one) for one in body] if kind == "link" else []
        if kind == "directory":
            for name in sorted(body):
                octets += [len(name)] + [ord(one) for one in name] + [body[name]]
        length = len(octets)
        kinds = ["", "file", "directory", "link"]
        head = (kinds.index(kind), links // 256, links % 256, length // 65536, length // 256 % 256, length % 256)
        values[4096 * number] = head
        for chunk in range(0, length, 448):
            part = octets[chunk : chunk + 448]
            while part and part[-1] == 0:
                del part[-1]
            if part:
                values[4096 * number + chunk // 448 + 1] = tuple(part)
    return values
