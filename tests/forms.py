"""The forms of writings as rules, and where a writing can no longer go on by them: told by Earley's way of parsing."""

import re

from tests.samples import KEPT_WORDS

PROGRAM = """
WHOLE: HEADERS LOCALS STATES order NAMES end REGISTERS ACTIONS TABLES control ITEMS end
HEADERS: ; HEADERS header NAME FIELDS end
FIELDS: ; FIELDS NAME NUMBER
LOCALS: ; LOCALS local NAME NUMBER
STATES: ; STATES state NAME READ NEXT
READ: ; read NAME
NEXT: accept ; refuse ; go NAME ; by PLACE CASES else AIM
CASES: ; CASES case NUMBER NUMBER AIM
AIM: NAME ; accept ; refuse
NAMES: ; NAMES NAME
REGISTERS: ; REGISTERS register NAME NUMBER NUMBER
ACTIONS: ; ACTIONS action NAME PARAMS STEPS end
PARAMS: ; PARAMS param NAME NUMBER
STEPS: ; STEPS STEP
STEP: set PLACE = E ; put NAME ; strike NAME ; touch NAME [ E ] WAY E INTO
WAY: add ; set ; greatest ; least ; or
INTO: ; into PLACE
TABLES: ; TABLES table NAME KEYS CHOICES default NAME NUMBERS room NUMBER
KEYS: ; KEYS key PLACE KIND
KIND: exact ; prefix ; mask ; range
CHOICES: ; CHOICES action NAME
NUMBERS: ; NUMBERS NUMBER
ITEMS: ; ITEMS ITEM
ITEM: STEP ; apply NAME ; if C then ITEMS ELSE end
ELSE: ; else ITEMS
E: NUMBER ; PLACE ; $ NAME ; held NAME ; ( E OP E )
OP: + ; - ; & ; | ; ^ ; << ; >>
C: E COND E ; not C ; both C and C ; either C or C
COND: = ; # ; < ; >=
"""
KEY_FORMS = {"exact": "NUMBER", "prefix": "NUMBER / NUMBER", "mask": "NUMBER & NUMBER", "range": "NUMBER to NUMBER"}


def rules_of(text):
    """The rules of a grammar: for each name the rows that it may become."""
    lines = [line.split(": ", 1) if ": " in line else [line.rstrip(":"), ""] for line in text.strip().split("\n")]
    return {name: [tuple(row.split()) for row in f" {rows} ".split(" ; ")] for name, rows in lines}


PROGRAM_RULES = rules_of(PROGRAM)


def contents_rules(tables):
    """The rules of the contents of these tables, told by their names and kinds."""
    rows = [f"table {name} ENTRIES{at} end" for at, (name, _) in enumerate(tables)]
    lines = ["WHOLE: " + " ".join(rows), "NUMBERS: ; NUMBERS NUMBER"]
    for at, (_, kinds) in enumerate(tables):
        told = " ".join(KEY_FORMS[kind] for kind in kinds)
        lines.append(f"ENTRIES{at}: ; ENTRIES{at} entry {told} then NAME NUMBERS")
    return rules_of("\n".join(lines))


def parts_of(writing):
    """The words, marks and other signs of a writing, each with the index of its first sign."""
    return [(found.group(), found.start()) for found in re.finditer(r"[a-z0-9_.]+|<<|>>|>=|[^ \n]", writing)]


def is_name(text):
    return re.fullmatch(r"[a-z][a-z0-9_]{0,11}", text) is not None and text not in KEPT_WORDS


def fits(symbol, text):
    """Whether a word or mark is what a symbol without rules stands for."""
    if symbol == "NAME":
        return is_name(text)
    if symbol == "NUMBER":
        return re.fullmatch(r"0|[1-9][0-9]{0,9}", text) is not None and int(text) < 2 ** 32
    if symbol == "PLACE":
        names = text.split(".")
        return text in ("in", "out", "gone") or (len(names) < 3 and all(map(is_name, names)))
    return text == symbol


def refused_at(rules, writing):
    """By which index the forms refuse a writing; None if they do not."""
    rows = [grown(rules, {("WHOLE", row, 0, 0) for row in rules["WHOLE"]}, [])]
    for text, index in parts_of(writing):
        moved = {
            (name, row, at + 1, begun) for name, row, at, begun in rows[-1]
            if at < len(row) and row[at] not in rules and fits(row[at], text)
        }
        if not moved:
            return index
        rows.append(grown(rules, moved, rows))
    whole = [item for item in rows[-1] if item[0] == "WHOLE" and item[2] == len(item[1])]
    return None if whole else len(writing)


def grown(rules, items, rows):
    """All that may stand open where these items do; rows has what stood open ahead."""
    found, begun = set(items), list(items)
    here = len(rows)
    while begun:
        name, row, at, since = begun.pop()
        if at < len(row) and row[at] in rules:
            more = [(row[at], other, 0, here) for other in rules[row[at]]]
            # What may be nothing is passed over at once.
            more += [(name, row, at + 1, since)] if () in rules[row[at]] else []
        elif at == len(row):
            ahead = found if since == here else rows[since]
            more = [(up, other, spot + 1, first) for up, other, spot, first in ahead if other[spot:spot + 1] == (name,)]
        else:
            more = []
        for item in more:
            if item not in found:
                found.add(item)
                begun.append(item)
    return found
