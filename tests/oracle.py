"""What point 5 says, worked out from points 3 and 4 in another way than the program does.

`is_text` decides whether words write a house by a pattern and by counting; `can_go_on` tries all
ends that a part which is not complete could have.
"""

import re

KEYS = "good member has talk recipe cost times needs takes gives order pays".split()
NAME = "(?!(?:" + "|".join(KEYS) + ")(?: |$))[a-z]{1,8}"
NUMBER = "(?:0|[1-9][0-9]{0,3})"


def amounts(key, least=0):
    return f"(?: {key} {NAME} {NUMBER}){{{least},4}}"


GOOD = f"good {NAME}"
MEMBER = f" member {NAME}{amounts('has')}"
TALK = f" talk {NAME} {NAME}"
RECIPE = f" recipe {NAME} cost {NUMBER} times [1-4](?: needs {NAME}){{0,2}}{amounts('takes')}{amounts('gives')}"
ORDER = f" order {NAME} pays {NUMBER}{amounts('takes', 1)}"
HOUSE = re.compile(
    f"({GOOD}(?: {GOOD}){{0,3}})((?:{MEMBER}){{1,5}})((?:{TALK}){{0,10}})((?:{RECIPE}){{0,3}})((?:{ORDER}){{0,4}})"
)


def unlike(parts):
    return len(set(parts)) == len(parts)


def all_unlike_and_known(part, key, known):
    found = re.findall(f" {key} ({NAME})(?= |$)", part)
    return unlike(found) and set(found) <= set(known)


def is_text(words):
    match = HOUSE.fullmatch(" ".join(words))
    if not match:
        return False
    goods = match[1].split()[1::2]
    members = re.findall(f"member ({NAME})", match[2])
    pairs = [tuple(talk.split()[1:]) for talk in re.findall(TALK, match[3])]
    recipes = re.findall(RECIPE, match[4])
    orders = re.findall(ORDER, match[5])
    parts = re.findall(MEMBER, match[2]) + recipes + orders
    return (
        unlike(goods)
        and unlike(members)
        and unlike(pairs)
        and unlike([part.split()[1] for part in recipes])
        and unlike([part.split()[1] for part in orders])
        and all(a in members and b in members and members.index(a) < members.index(b) for a, b in pairs)
        and all(all_unlike_and_known(part, key, goods) for part in parts for key in ("has", "takes", "gives"))
        and all(all_unlike_and_known(part, "needs", members) for part in recipes)
    )


def tails(whole):
    return [whole[at:] for at in range(len(whole))]


def ends(words):
    """All that could be missing of the words' last part, and of what each house has at least."""
    names = sorted({word for word in words if re.fullmatch(NAME, word)})
    # Names that no part has yet.
    new, newer = [name for name in ("n", "nn", "nnn", "nnnn") if name not in names][:2]
    yield []
    yield from tails([new, "member", newer])
    yield from tails([new, "cost", "0", "times", "1"])
    for name in names:
        yield [name]
        yield [name, "0"]
        yield from tails([new, "pays", "0", "takes", name, "0"])
        for other in names:
            yield [name, other]


def can_go_on(words):
    return any(is_text(words + end) for end in ends(words))


def fault_at(words, at):
    """True if point 5 tells this `at` for the words; None stands for words that write a house."""
    if at is None or is_text(words):
        return at is None and is_text(words)
    if at == len(words):
        return can_go_on(words) or not words
    return (at == 0 or can_go_on(words[:at])) and not can_go_on(words[:at + 1])
