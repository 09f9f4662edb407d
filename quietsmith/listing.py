"""The texts of code files."""

from quietsmith.errors import BadText
from quietsmith.instructions import MOST_INSTRUCTIONS, NUMBERS, is_instruction
from quietsmith.layouts import MOST_REGIONS, is_region, region_end
from quietsmith.tokens import is_number

# No number of a line is greater than 65535.
MOST_DIGITS = 5
REGION = "region"


def code_text(code_file):
    """Returns the text of a code file."""
    layout, code = code_file
    lines = [line_of((REGION, *region)) for region in layout]
    lines.extend([line_of(instruction) for instruction in code])
    return "\n".join(lines)


def line_of(parts):
    """Returns the line with these parts."""
    return " ".join([str(part) for part in parts])


def parse_code(text):
    """Returns the code file with this text, and raises BadText if there is none."""
    if not isinstance(text, str):
        raise BadText(0)
    layout = []
    code = []
    start = 0
    for line in text.split("\n"):
        words = line.split(" ")
        if words[0] == REGION:
            region = read_region(words)
            if region is None or len(code) > 0 or not follows(layout, region):
                raise BadText(start)
            layout.append(region)
        else:
            instruction = read_instruction(words)
            if instruction is None or len(code) == MOST_INSTRUCTIONS:
                raise BadText(start)
            code.append(instruction)
        start += len(line) + 1
    if len(code) == 0:
        raise BadText(len(text))
    return (tuple(layout), tuple(code))


def follows(layout, region):
    """Tells whether the region can stand behind those of the layout."""
    if len(layout) == MOST_REGIONS:
        return False
    return len(layout) == 0 or region_end(layout[-1]) <= region[0]


def read_region(words):
    """Returns the region that the words of a line tell, or None."""
    if len(words) != 5:
        return None
    region = (read_number(words[1]), read_number(words[2]), words[3], read_number(words[4]))
    return region if is_region(region) else None


def read_instruction(words):
    """Returns the instruction that the words of a line tell, or None."""
    if words[0] not in NUMBERS:
        return None
    instruction = (words[0], *[read_number(word) for word in words[1:]])
    return instruction if is_instruction(instruction) else None


def read_number(word):
    """Returns the number that a word tells, or -1, which has no place in a line."""
    return int(word) if is_number(word, MOST_DIGITS) else -1
