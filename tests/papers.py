"""What points 26 to 28 say, worked out by patterns and by trying, in another way than the program does.

`is_table` and `is_claim` decide whether lines write a table or a claim; `fault_at` tells the index that
BadPaper must have, by asking for each beginning of the lines whether some lines begin so.
"""

import re
from itertools import chain, combinations
from math import gcd

from plans import groups_of

PART = "(?:0|[1-9][0-9]{0,59})"
FRACTION = re.compile(f"(-?{PART})(?:/({PART}))?")
GROUP = "[0-4](?:[+][0-4])*"
NUMBER = "[-0-9/]+"
NUMBERS = f"{NUMBER}(?: {NUMBER}){{0,4}}"
PAY = f"pay {NUMBERS}\n"
WEIGHTS = f"(?:weight {GROUP} {NUMBER}\n)*"
CLAIM = re.compile(
    f"(?:stay\n{PAY}"
    f"|leave\n{WEIGHTS}"
    f"|(?:subsidy|tax) {NUMBER}\n{PAY}{WEIGHTS}"
    f"|(?:least|most) [0-4] {NUMBER} {NUMBER}\n{PAY}{WEIGHTS}"
    f"|near {NUMBER} {NUMBER}\nwish {NUMBERS}\n{PAY}{WEIGHTS}"
    f"|fair\n{PAY}(?:level {NUMBER}\n{WEIGHTS})*)"
)


def is_fraction(word):
    match = FRACTION.fullmatch(word)
    if not match or match[1] == "-0":
        return False
    return match[2] is None or (int(match[2]) > 1 and gcd(int(match[1]), int(match[2])) == 1)


def members_of(word):
    return [int(index) for index in word.split("+")]


def is_group(word, count):
    return re.fullmatch(GROUP, word) is not None and tuple(members_of(word)) in groups_of(count)


def lists_of_groups(count):
    """The groups of all tables of a count, each as a list in ascending order."""
    needed = [(member,) for member in range(count)] + ([tuple(range(count))] if count > 1 else [])
    others = [group for group in groups_of(count) if group not in needed]
    chosen = chain.from_iterable(combinations(others, size) for size in range(len(others) + 1))
    return [sorted(needed + list(more)) for more in chosen]


# Up to four members, so that there are not too many tables.
LISTS = {str(count): lists_of_groups(count) for count in range(1, 5)}


def begins_table(lines, whole=False):
    """True if the lines are the beginning of those of some table, or all of them."""
    if not lines:
        return not whole
    if lines[0] not in [f"members {count}" for count in LISTS]:
        return False
    rows = [line.split(" ") for line in lines[1:]]
    count = lines[0][-1]
    if not all(len(row) == 2 and is_group(row[0], int(count)) and is_fraction(row[1]) for row in rows):
        return False
    groups = [tuple(members_of(row[0])) for row in rows]
    return any(groups == (full if whole else full[:len(groups)]) for full in LISTS[count])


def is_table(lines):
    return begins_table(lines, True)


def is_claim(lines):
    text = "".join(line + "\n" for line in lines)
    if not CLAIM.fullmatch(text) or any("\n" in line for line in lines):
        return False
    before = []
    for line in lines:
        key, *words = line.split(" ")
        numbers = words[1:] if key in ("weight", "least", "most") else words
        if not all(is_fraction(word) for word in numbers):
            return False
        if key == "weight":
            if not is_group(words[0], 5) or words[1][0] in "-0" or (before and members_of(words[0]) <= before):
                return False
            before = members_of(words[0])
        else:
            before = []
    return True


def begins_claim(lines):
    ends = ([], ["pay 0"], ["wish 0", "pay 0"], ["stay", "pay 0"])
    return any(is_claim(lines + end) for end in ends)


def fault_at(lines, is_paper, begins):
    """The index that BadPaper has, or None if the lines are right."""
    if is_paper(lines):
        return None
    for at in range(len(lines)):
        if not begins(lines[:at + 1]):
            return at
    return len(lines)
