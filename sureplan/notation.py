"""How formulas, amounts and effects are written as lists (point 118)."""

from sureplan.shapes import slots_of

FORMULA_LISTS = ("not", "and", "or", "implies", "all", "some", "same", "le", "lt", "ge", "gt", "eq")
AMOUNT_LISTS = ("plus", "minus", "times")
EFFECT_LISTS = ("make", "unmake", "set", "add", "take", "when", "each")
SIGNS = {"le": "<=", "lt": "<", "ge": ">=", "gt": ">", "eq": "=", "plus": "+", "minus": "-", "times": "*"}


def lists_of(category):
    """Returns the first words of the nodes that are written as lists of their own."""
    if category == "formula":
        return FORMULA_LISTS
    return AMOUNT_LISTS if category == "amount" else EFFECT_LISTS


def written_word(word):
    """Returns what stands in a text for the first word of a node."""
    return SIGNS.get(word, word)


def node_word(category, written):
    """Returns the first word of the node for which a word stands in a text, or None."""
    for word in lists_of(category):
        if written_word(word) == written:
            return word
    return None


def written_slots(category, word):
    """Returns the slots behind the first word of a node; in a text, a name and its arguments are one form."""
    return [slot for slot in slots_of(category, word) if slot != "args"]
