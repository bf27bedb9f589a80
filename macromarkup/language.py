"""The names of the language: its commands and its environments."""

# These the expansion carries out; all others it hands on to the tree.
EXPANDED_COMMANDS = (
    "newcommand", "renewcommand", "newenvironment", "newcounter", "setcounter", "stepcounter",
    "arabic", "roman", "alph", "ifempty", "ifsame", "begin", "end",
)
HEADINGS = {"section": 1, "subsection": 2, "subsubsection": 3}
MOST_LEVELS = 6
STYLES = ("emph", "strong", "strike", "super", "sub", "caps")
TREE_COMMANDS = {
    "\\": True, "section": True, "subsection": True, "subsubsection": True, "heading": True, "rule": True,
    "item": True, "term": True, "emph": True, "strong": True, "strike": True, "super": True, "sub": True,
    "caps": True, "noteref": True, "ref": True, "cite": True, "link": True, "image": True, "span": True,
    "newline": True, "backslash": True,
}
ENVIRONMENTS = (
    "quote", "itemize", "enumerate", "description", "table", "figure", "group", "note", "code", "formula",
)


def is_language_command(name):
    return name in TREE_COMMANDS or name in EXPANDED_COMMANDS or name == "verb"
