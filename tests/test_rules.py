"""The package's files keep the rules of LANGUAGE.md that a script can look up."""

import ast
import pathlib
import unittest

from rules import faults

FOLDER = pathlib.Path(__file__).resolve().parent.parent / "programends"


def package_files():
    return {path.name: path.read_bytes().decode("utf-8") for path in sorted(FOLDER.glob("*.py"))}


class Package(unittest.TestCase):
    def test_only_files_of_python_lie_in_it(self):
        names = [path.name for path in FOLDER.iterdir() if path.name != "__pycache__"]
        self.assertEqual([name for name in names if not name.endswith(".py")], [])
        self.assertTrue(all((FOLDER / name).is_file() for name in names))
        self.assertIn("__init__.py", names)
        self.assertIn("gate.py", names)

    def test_no_rule_is_broken(self):
        self.assertEqual(faults(package_files()), [])

    def test_init_binds_no_name(self):
        tree = ast.parse(package_files()["__init__.py"])
        self.assertEqual(len(tree.body), 1)
        self.assertIsInstance(tree.body[0], ast.Expr)

    def test_interface_is_a_plain_def(self):
        tree = ast.parse(package_files()["gate.py"])
        found = [node for node in tree.body if isinstance(node, ast.FunctionDef) and node.name == "answers"]
        self.assertEqual(len(found), 1)
        self.assertEqual([one.arg for one in found[0].args.args], ["calls"])
        self.assertEqual(found[0].args.defaults, [])


def within_def(*rows):
    return "def one(given):\n" + "".join("    " + row + "\n" for row in rows)


class EachRuleIsLookedUp(unittest.TestCase):
    """Were the script blind to a rule, a file that breaks it would pass."""

    def broken(self, rule, text, name="other.py"):
        with self.subTest(rule=rule, text=text):
            rules = {one for where, row, one in faults({name: '"""A file."""\n' + text})}
            self.assertIn(rule, rules)

    def kept(self, text):
        with self.subTest(text=text):
            self.assertEqual(faults({"other.py": '"""A file."""\n' + text}), [])

    def test_what_is_kept(self):
        self.kept("")
        self.kept("FEW = (1, -2, (3, 'x'))\n")
        self.kept(within_def("for place, one_more in enumerate(given):", "    given = given + [place]", "return given"))
        self.kept("class Kept(Exception):\n    def __init__(self, place):\n        self.place = place\n")

    def test_files(self):
        for name in ("other.txt", "Other.py", "ot-her.py"):
            self.broken("L1", "", name)
        for name in ("test.py", "test_one.py", "filter.py", "site.py", "typing.py"):
            self.broken("L14", "", name)
        self.broken("L14", "# \u00e9\n")
        self.broken("L14", "# \r\n")

    def test_sizes(self):
        self.broken("L10", "# " + "x" * 119 + "\n")
        self.kept("# " + "x" * 118 + "\n")
        self.broken("L10", "#\t\n")
        self.broken("L10", "\n" * 399)
        self.kept("\n" * 398)
        self.broken("L10", within_def(*["given = given + 1"] * 40))
        self.kept(within_def(*["given = given + 1"] * 39))

    def test_words(self):
        for word in ("type", "typing", "Enum", "namedtuple", "xdataclassx", "Protocol"):
            self.broken("L17", "# " + word + "\n")
        self.kept("# types, enumerated\n")
        for name in ("open", "getattr", "sys", "dir"):
            self.broken("L17", within_def("return " + name))
        self.broken("L17", within_def("return given.format"))

    def test_top(self):
        self.broken("L3", "for place in (1, 2):\n    pass\n")
        self.broken("L3", "FEW = [1] + [2]\n")
        self.broken("L3", "FEW = ([1], 2)\n")
        self.broken("L15", "FEW = 1\nFEW = 2\n")

    def test_imports(self):
        self.broken("L16", "import re\n")
        self.broken("L2", "from re import compile\n")
        self.broken("L2", "from .gate import answers\n")
        self.broken("L2", "from programends.gate import *\n")
        self.broken("L2", within_def("from programends.gate import answers"))
        self.broken("L16", "from programends.gate import nothing\n")
        self.broken("L16", "def answers(calls):\n    return calls\n")
        draws = {
            "left.py": '"""A file."""\nfrom programends.right import two\n\n\ndef one():\n    return two()\n',
            "right.py": '"""A file."""\nfrom programends.left import one\n\n\ndef two():\n    return one()\n',
        }
        self.assertIn("L16", {rule for name, row, rule in faults(draws)})

    def test_defs_and_classes(self):
        self.broken("L4", "def one(*given):\n    return given\n")
        self.broken("L4", "def one(given=-1):\n    return given\n")
        self.broken("L4", "def one(given=()):\n    return given\n")
        self.broken("L4", "def two(given):\n    return given\n\n\n@two\ndef one():\n    return 1\n")
        self.broken("L21", "def one(given: int):\n    return given\n")
        self.broken("L5", "class Kept:\n    count = 1\n")
        self.broken("L15", within_def("class Kept:", "    pass"))
        self.broken("L28", "class Kept:\n    def __eq__(self, other):\n        return True\n")
        self.broken("L28", "class Kept:\n    def __init__(self):\n        return None\n")
        self.broken("L18", "class Kept:\n    def one(self):\n        self.one = 1\n")
        self.broken("L26", "class Kept:\n    def __init__(self):\n        self.items = 1\n")

    def test_statements(self):
        for row in ("assert given", "del given", "global given", "yield given", "given"):
            self.broken("L6" if row != "yield given" else "L7", "def one():\n    " + row + "\n")
        self.broken("L6", within_def("one_more = given = 1"))
        self.broken("L6", within_def("for place in given:", "    pass", "else:", "    pass"))
        self.broken("L6", within_def("with given:", "    pass"))

    def test_values(self):
        for value in ("1.5", "b'x'", "given / 2", "{1, 2}", "{x for x in given}", "(x for x in given)", "[*given]",
                      "(x := 1)", "[x for x in given for y in given]", "{x: 1 for x in given}", "f'{given + 1}'"):
            self.broken("L7", within_def("return " + value))
        self.broken("L20", within_def("return given is 5"))
        self.broken("L27", within_def("return 2 ** given"))
        self.broken("L27", within_def("return '%'"))

    def test_names(self):
        self.broken("L8", within_def("return map(given)"))
        self.broken("L24", within_def("return set(given)"))
        self.broken("L12", within_def("for _ in given:", "    pass"))
        self.broken("L12", within_def("return given._place"))
        self.broken("L15", within_def("next = given", "return next"))
        self.broken("L15", "class Kept:\n    pass\n\n\ndef one(Kept):\n    return Kept\n")
        self.broken("L25", within_def("return given.casefold()"))

    def test_calls_and_walks(self):
        self.broken("L22", within_def("return len(obj=given)"))
        self.broken("L22", within_def("return [len, given]"))
        self.broken("L23", within_def("places = range(3)", "return places"))
        self.broken("L23", within_def("return given.items()"))
        self.broken("L23", within_def("for place in given:", "    given.append(place)"))

    def test_errors(self):
        for row in ("except Exception:", "except:", "except (KeyError, TypeError):"):
            self.broken("L19", within_def("try:", "    given = 1", row, "    given = 2"))
        self.broken("L19", within_def("raise ValueError"))
        self.broken("L19", within_def("try:", "    given = 1", "except KeyError:", "    raise"))


if __name__ == "__main__":
    unittest.main()
