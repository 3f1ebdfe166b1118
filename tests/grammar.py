"""The grammar of points 54 to 58, and how far tokens can be the beginning of a question by it.

This knows nothing of the parser of the program, so that the one can be tested with the other.
"""

from kithbase.tokens import tokenize

GRAMMAR = """
question: query order limit
order: | ORDER BY keys
keys: key | keys , key
key: name direction | integer direction
direction: | DESC
limit: | LIMIT integer
query: part | query setword part
setword: UNION ALL | UNION | EXCEPT | INTERSECT
part: select | ( query )
worded: select | worded setword part
select: SELECT distinct list from where group having
distinct: | DISTINCT
list: * | items
items: item | items , item
item: a | a AS name
from: | FROM sources
where: | WHERE a
group: | GROUP BY several
having: | HAVING a
several: a | several , a
sources: source | sources JOIN source ON a | sources LEFT JOIN source ON a
source: name | name name | ( query ) name
a: b | a OR b
b: c | b AND c
c: d | NOT c
d: e | d compare e | d IS NULL | d IS NOT NULL | d IN ( several ) | d NOT IN ( several ) | d IN ( worded )
d: d NOT IN ( worded )
compare: = | <> | < | <= | > | >=
e: f | e + f | e - f | e || f
f: g | f * g | f / g | f MOD g
g: h | - g
h: integer | text | NULL | TRUE | FALSE | parameter | name | name . name | COUNT ( * ) | COUNT ( a ) | SUM ( a )
h: MIN ( a ) | MAX ( a ) | EXISTS ( query ) | CASE WHEN a THEN a ELSE a END | ( worded ) | ( a )
"""
BLIND = ("name", "integer", "text", "parameter")


def read_grammar():
    rules = {}
    for line in GRAMMAR.strip().split("\n"):
        head, told = line.split(":", 1)
        # The operator with two bars would be split like the bars between alternatives.
        told = told.replace("||", "CONCAT")
        for alternative in told.split("|"):
            words = ["||" if word == "CONCAT" else word for word in alternative.split()]
            rules.setdefault(head, []).append(tuple(words))
    return rules


RULES = read_grammar()


def symbol(token):
    kind, told, position = token
    if kind in BLIND:
        return kind
    return told.upper() if kind == "keyword" else told


def closed(rows, items):
    """Adds to the items of the last row all that they predict and complete."""
    rows.append(items)
    here = len(rows) - 1
    rest = list(items)
    found = dict.fromkeys(rest)
    while rest:
        head, words, at, start = rest.pop()
        new = []
        if at == len(words):
            waiting = found if start == here else rows[start]
            new = [(h, w, k + 1, s) for h, w, k, s in list(waiting) if k < len(w) and w[k] == head]
        elif words[at] in RULES:
            new = [(words[at], rule, 0, here) for rule in RULES[words[at]]]
            if () in RULES[words[at]]:
                new.append((head, words, at + 1, start))
        for item in new:
            if item not in found:
                found[item] = None
                rest.append(item)
    rows[here] = list(found)


def refused_index(tokens):
    """Returns the index of the first token that cannot continue a question, the number of tokens if the question is
    not complete, or None if it is one."""
    rows = []
    closed(rows, [("question", rule, 0, 0) for rule in RULES["question"]])
    for index, token in enumerate(tokens):
        word = symbol(token)
        items = [(h, w, k + 1, s) for h, w, k, s in rows[-1] if k < len(w) and w[k] == word]
        if not items:
            return index
        closed(rows, items)
    if any(h == "question" and k == len(w) and s == 0 for h, w, k, s in rows[-1]):
        return None
    return len(tokens)


def refused_position(text):
    """Returns the position at which the grammar alone refuses the text, or None."""
    tokens = tokenize(text)
    index = refused_index(tokens)
    if index is None:
        return None
    return tokens[index][2] if index < len(tokens) else len(text)
