"""Lines: how tables and claims are written, and read again."""

from nogroupleaves.errors import BadPaper
from nogroupleaves.parts import is_group, whole_of
from nogroupleaves.ratio import Ratio
from nogroupleaves.table import MOST_COUNT, Table

MOST_DIGITS = 60

# The parts of the claims of each form, in the order in which a claim has them.
PARTS = {
    "stay": ("pay",),
    "leave": ("weights",),
    "subsidy": ("amount", "pay", "weights"),
    "tax": ("amount", "pay", "weights"),
    "least": ("member", "amount", "pay", "weights", "rest"),
    "most": ("member", "amount", "pay", "weights", "rest"),
    "near": ("wish", "amount", "pay", "weights", "rest"),
    "fair": ("pay", "levels"),
}
# Which of them stand in the first line, and which have a line of their own, in the order of the lines.
HEAD_PARTS = ("member", "amount", "rest")
LINE_PARTS = ("wish", "pay")


def table_lines(table):
    """The list of the lines of the table."""
    return [f"members {table.count}"] + [_pair_words(group, earning) for group, earning in table.rows]


def claim_lines(claim):
    """The list of the lines of the claim."""
    parts = {name: part for name, part in zip(PARTS[claim[0]], claim[1:])}
    lines = [" ".join([claim[0]] + [str(parts[name]) for name in HEAD_PARTS if name in parts])]
    for name in LINE_PARTS:
        if name in parts:
            lines.append(" ".join([name] + [str(part) for part in parts[name]]))
    lines.extend(_weight_lines(parts.get("weights", ())))
    for least, weights in parts.get("levels", ()):
        lines.append(f"level {least}")
        lines.extend(_weight_lines(weights))
    return lines


def _weight_lines(weights):
    return [f"weight {_pair_words(group, weight)}" for group, weight in weights]


def _pair_words(group, number):
    members = "+".join([str(member) for member in group])
    return f"{members} {number}"


def read_table(lines):
    """The table that the lines write."""
    count = _read_count(lines)
    needed = sorted(set([(member,) for member in range(count)] + [whole_of(count)]))
    rows = []
    for at in range(1, len(lines)):
        group, earning = _read_pair(_words_at(lines, at), at, count)
        # A group that is needed cannot come any more behind one that is greater.
        if (rows and group <= rows[-1][0]) or (needed and needed[0] < group):
            raise BadPaper(at)
        rows.append((group, earning))
        needed = [other for other in needed if other != group]
    if needed:
        raise BadPaper(len(lines))
    return Table(count, rows)


def _read_count(lines):
    words = _words_at(lines, 0)
    if len(words) != 2 or words[0] != "members" or not _is_digit(words[1], 1, MOST_COUNT):
        raise BadPaper(0)
    return int(words[1])


def read_claim(lines):
    """The claim that the lines write."""
    form, parts = _read_head(lines)
    at = 1
    for name in LINE_PARTS:
        if name in PARTS[form]:
            parts[name] = _read_numbers(lines, at, name)
            at += 1
    if "weights" in PARTS[form]:
        parts["weights"], at = _read_weights(lines, at)
    if "levels" in PARTS[form]:
        parts["levels"], at = _read_levels(lines, at)
    if at < len(lines):
        raise BadPaper(at)
    return (form,) + tuple([parts[name] for name in PARTS[form]])


def _read_head(lines):
    """The form, and a dict of the parts that the first line writes."""
    form, *words = _words_at(lines, 0)
    names = [name for name in HEAD_PARTS if name in PARTS.get(form, ())]
    if form not in PARTS or len(words) != len(names):
        raise BadPaper(0)
    parts = {}
    for name, word in zip(names, words):
        parts[name] = _read_member(word, 0) if name == "member" else _read_number(word, 0)
    return form, parts


# Each of the following readers raises BadPaper with the index `at` of its line, also where
# no line stands any more. Those for several lines tell the index of the line behind them, too.


def _read_numbers(lines, at, key):
    words = _words_at(lines, at)
    if words[0] != key or not 1 <= len(words) - 1 <= MOST_COUNT:
        raise BadPaper(at)
    return tuple([_read_number(word, at) for word in words[1:]])


def _read_weights(lines, at):
    weights = []
    while _words_at(lines, at)[0] == "weight":
        group, weight = _read_pair(_words_at(lines, at)[1:], at, MOST_COUNT)
        if weight.num <= 0 or (weights and group <= weights[-1][0]):
            raise BadPaper(at)
        weights.append((group, weight))
        at += 1
    return tuple(weights), at


def _read_levels(lines, at):
    levels = []
    while _words_at(lines, at)[0] == "level":
        words = _words_at(lines, at)
        if len(words) != 2:
            raise BadPaper(at)
        least = _read_number(words[1], at)
        weights, at = _read_weights(lines, at + 1)
        levels.append((least, weights))
    return tuple(levels), at


def _read_pair(words, at, count):
    """A pair of a group, of that many members, and a number."""
    if len(words) != 2:
        raise BadPaper(at)
    group = tuple([_read_member(word, at) for word in words[0].split("+")])
    if not is_group(count, group):
        raise BadPaper(at)
    return group, _read_number(words[1], at)


def _read_member(word, at):
    if not _is_digit(word, 0, MOST_COUNT - 1):
        raise BadPaper(at)
    return int(word)


def _read_number(word, at):
    num, slash, den = word.partition("/")
    if not _are_digits(num.removeprefix("-")) or (slash and not _are_digits(den)):
        raise BadPaper(at)
    if slash and int(den) == 0:
        raise BadPaper(at)
    number = Ratio(int(num), int(den) if slash else 1)
    # A fraction is written in one way only, so any other way has a fault.
    if str(number) != word:
        raise BadPaper(at)
    return number


def _words_at(lines, at):
    # An empty word fits nowhere, so it also serves as what stands behind the last line.
    return lines[at].split(" ") if at < len(lines) else [""]


def _are_digits(word):
    return 1 <= len(word) <= MOST_DIGITS and all(["0" <= sign <= "9" for sign in word])


def _is_digit(word, least, most):
    return len(word) == 1 and str(least) <= word <= str(most)
