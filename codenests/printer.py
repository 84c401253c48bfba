"""How grounds, rows, codes, nests, partial nests and scripts are written."""


def ground_text(ground):
    """The text of a ground."""
    return "ground " + str(ground.p()) + " " + str(ground.n()) + ";\n"


def row_text(row):
    """The text of a row, or of any tuple of numbers."""
    return "(" + ", ".join([str(number) for number in row]) + ")"


def code_text(code):
    """The text of a code, or of any tuple of tuples of numbers."""
    return "[" + ", ".join([row_text(row) for row in code]) + "]"


def block_text(word, items):
    """The text of a word and of what stands in braces behind it."""
    return word + " {\n" + "".join([item + ";\n" for item in items]) + "}\n"


def nest_text(nest):
    """The text of a nest."""
    return block_text("nest", [code_text(code) for code in nest.codes()])


def part_text(part):
    """The text of a partial nest."""
    return block_text("part", [code_text(code) for code in part.codes()])


def deed_text(deed):
    """How a deed is written in the text of a script."""
    level, code = deed
    return str(level) + " " + code_text(code)


def script_text(script):
    """The text of a script, or of any list of pairs as read_script returns it."""
    return block_text("script", [deed_text(deed) for deed in script])
