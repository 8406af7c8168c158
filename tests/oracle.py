"""The runs of small programs, straight from the words of the document, for checking the package against."""


def parse(text):
    node, rest = parse_sum(text)
    if rest:
        raise ValueError(rest)
    return node


def parse_sum(text):
    node, rest = parse_product(text)
    while rest[:1] == "+":
        other, rest = parse_product(rest[1:])
        node = ("+", node, other)
    return node, rest


def parse_product(text):
    node, rest = parse_starred(text)
    while rest[:1] == ";":
        other, rest = parse_starred(rest[1:])
        node = (";", node, other)
    return node, rest


def parse_starred(text):
    node, rest = parse_unit(text)
    while rest[:1] == "*":
        node, rest = ("*", node), rest[1:]
    return node, rest


def parse_unit(text):
    sign, rest = text[:1], text[1:]
    if sign == "(":
        node, rest = parse_sum(rest)
        if rest[:1] != ")":
            raise ValueError(rest)
        return node, rest[1:]
    if sign == "!":
        node, rest = parse_unit(rest)
        return ("!", node), rest
    if sign and sign in "01ABCDEFabcdefgh":
        return (sign,), rest
    raise ValueError(text)


def glued(ones, others, most_actions):
    by_begin = {}
    for run in others:
        by_begin.setdefault(run[0], []).append(run)
    return {
        one + other[1:]
        for one in ones
        for other in by_begin.get(one[-1], [])
        if len(one) + len(other) <= 2 * most_actions + 2
    }


def runs(node, numbers, most_actions):
    """The node's runs with so many actions at most, and of these numbers alone."""
    sign = node[0]
    alone = {(number,) for number in numbers}
    if sign == "0":
        return set()
    if sign == "1":
        return alone
    if sign in "ABCDEF":
        return {(number,) for number in numbers if number >> "ABCDEF".index(sign) & 1}
    if sign in "abcdefgh":
        action = "abcdefgh".index(sign)
        return {(ahead, action, behind) for ahead in numbers for behind in numbers if most_actions > 0}
    parts = [runs(part, numbers, most_actions) for part in node[1:]]
    if sign == "!":
        return alone - parts[0]
    if sign == "+":
        return parts[0] | parts[1]
    if sign == ";":
        return glued(parts[0], parts[1], most_actions)
    found = alone
    more = alone | glued(parts[0], alone, most_actions)
    while more != found:
        found = more
        more = found | glued(parts[0], found, most_actions)
    return found


def earliest(found):
    """The first of these runs, as a list; None if there is none."""
    if not found:
        return None
    return list(min(found, key=lambda run: (len(run), run)))


def first_difference(p, q, numbers, most_actions):
    """The first run that one of p and q has and the other hasn't, as a list; None if there is none so short."""
    return earliest(runs(parse(p), numbers, most_actions) ^ runs(parse(q), numbers, most_actions))


def first_missing(p, q, numbers, most_actions):
    """The first run that p has and q hasn't, as a list; None if there is none so short."""
    return earliest(runs(parse(p), numbers, most_actions) - runs(parse(q), numbers, most_actions))


def first_breach(t, p, u, numbers, most_actions):
    """p's first run that begins where t holds and ends where u doesn't, as a list; None if there is none so short."""
    begins, wanted = runs(parse(t), numbers, 0), runs(parse(u), numbers, 0)
    found = runs(parse(p), numbers, most_actions)
    return earliest([run for run in found if run[:1] in begins and run[-1:] not in wanted])


def is_program(text):
    try:
        return tests_are_negated(parse(text))
    except ValueError:
        return False


def tests_are_negated(node):
    if node[0] == "!" and not is_test(node[1]):
        return False
    return all(tests_are_negated(part) for part in node[1:])


def is_test(node):
    return node[0] not in "*abcdefgh" and all(is_test(part) for part in node[1:])
