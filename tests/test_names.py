"""The names of the package: none is one that ../shared/LANGUAGE.md, L17, rules out."""

import pathlib
import re
import tokenize
import unittest

PACKAGE = pathlib.Path(__file__).resolve().parent.parent / "notemarks"
NEVER_A_NAME = """
register mro elements open input version_info with_traceback add_note
f_back f_builtins f_code f_globals f_lasti f_lineno f_locals f_trace
tb_frame tb_lasti tb_lineno tb_next
attrgetter breakpoint builtins compile copyright credits delattr dir eval exec exit gc getattr
globals hasattr help id importlib license locals methodcaller os quit setattr super sys type
vars __name__
""".split()
FRAME_NAMES = re.compile("(co|cr|gi|ag)_[a-z]+")
NEVER_A_WORD = re.compile(r"\b(type|typing|typing_extensions|enum|Enum|IntEnum|StrEnum|Flag"
                          r"|IntFlag|Generic|Protocol|ABC|ABCMeta|namedtuple|NamedTuple|TypedDict"
                          r"|TYPE_CHECKING|abstractmethod)\b|dataclass|overload|contextmanager")


def package_files():
    files = sorted(PACKAGE.glob("*.py"))
    if not files:
        raise AssertionError("the package's files are not found")
    return files


def names_in(file):
    with file.open("rb") as rows:
        return {token.string for token in tokenize.tokenize(rows.readline)
                if token.type == tokenize.NAME}


class Names(unittest.TestCase):

    def test_no_name_is_ruled_out(self):
        for file in package_files():
            names = names_in(file)
            self.assertEqual(names & set(NEVER_A_NAME), set(), file.name)
            self.assertEqual([name for name in names if FRAME_NAMES.fullmatch(name)], [], file.name)

    def test_no_word_is_ruled_out(self):
        for file in package_files():
            self.assertIsNone(NEVER_A_WORD.search(file.read_text()), file.name)


if __name__ == "__main__":
    unittest.main()
