"""Formulas written as texts, and texts read item by item."""

from fromsize.errors import BadText
from fromsize.texts import is_number_text, number_text
from fromsize.words import is_string, least_word


def formula_items(is_table, terms):
    """The items of the text of a formula of this kind with these terms."""
    items = ["table" if is_table else "number", ":"]
    for weight, traces, word in terms:
        if len(items) > 2:
            items.append("/")
        items.append(number_text(weight))
        for trace in traces:
            items.append("(")
            items.extend(list(trace))
            items.append(")")
        if is_table:
            items.extend(list(word))
    return items


def kind_read(text):
    """The items of a text, and whether it is one of a table formula."""
    if not isinstance(text, str):
        raise BadText(0)
    items = text.split(" ")
    if items[0] not in ("table", "number"):
        raise BadText(0)
    if len(items) == 1 or items[1] != ":":
        raise BadText(1)
    return items, items[0] == "table"


def terms_read(items, is_table):
    """The terms that the items behind the first two tell."""
    terms = []
    at = 2
    while at < len(items):
        term, stop = term_read(items, at, is_table)
        # Only where the term ends is it known whether it comes behind the one ahead.
        if len(terms) > 0 and not terms[-1][1:] < term[1:]:
            raise BadText(stop - 1)
        terms.append(term)
        at = stop + 1
        if at == len(items):
            raise BadText(at)
    return terms


def term_read(items, start, is_table):
    """The term that begins at this item, and where the item behind it stands or would stand."""
    if not is_number_text(items[start]) or items[start] == "0":
        raise BadText(start)
    at = start + 1
    traces = []
    while at < len(items) and items[at] == "(":
        trace, at = trace_read(items, at)
        if len(traces) > 0 and trace < traces[-1]:
            raise BadText(at - 1)
        traces.append(trace)
    word = []
    while is_table and at < len(items) and is_string(items[at]):
        word.append(items[at])
        at = at + 1
    if at < len(items) and items[at] != "/":
        raise BadText(at)
    return (int(items[start]), tuple(traces), tuple(word) if is_table else None), at


def trace_read(items, start):
    """The word of the trace that is opened at this item, and where the item behind it stands or would stand."""
    at = start + 1
    while at < len(items) and is_string(items[at]):
        at = at + 1
    word = tuple(items[start + 1:at])
    if at == len(items) or items[at] != ")" or word == () or word != least_word(word):
        raise BadText(at)
    return word, at + 1
