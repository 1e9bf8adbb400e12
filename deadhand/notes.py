"""Needs, rows and orders as texts, and back."""

from deadhand.errors import NoText
from deadhand.layers import is_class
from deadhand.lives import parts, want_word, within

MOST_FIGURES = 4
# The parts that stand behind the kind of a need or an order.
ATOMS = {
    "year": ("number",),
    "comes": ("word",),
    "born": ("name",),
    "dead": ("name",),
    "age": ("name", "number"),
}
ORDERS = {
    "arrive": ("word", "number"),
    "birth": ("name",),
    "death": ("name",),
    "comes": ("word",),
    "years": ("number",),
    "land": ("word", "name", "number"),
    "drop": ("word", "number", "name"),
}
SALE = ("word", "number", "name", "name", "name")
GIFT = ("word", "number", "name")


def read_number(text):
    """The number that a text writes."""
    good = 1 <= len(text) <= MOST_FIGURES and within(text, "0", "9")
    if not good or (text[0] == "0" and text != "0"):
        raise NoText("a number is not well written")
    return int(text)


def read_word(text):
    """A word that is well written."""
    want_word(text)
    return text


def read_name(text):
    """A name that is well written."""
    parts(text)
    return text


READERS = {"number": read_number, "word": read_word, "name": read_name}


def read_part(form, text):
    """One part of a need or an order."""
    reader = READERS[form]
    return reader(text)


def read_parts(forms, texts):
    """Parts by their forms, as a tuple."""
    if len(texts) != len(forms):
        raise NoText("there are too many parts or too few")
    return tuple([read_part(form, text) for form, text in zip(forms, texts)])


def atom_at(texts, at):
    """The need that begins at a place, and the place behind it."""
    kind = texts[at] if at < len(texts) else ""
    if kind not in ATOMS:
        raise NoText("there is no such kind of need")
    behind = at + 1 + len(ATOMS[kind])
    return ((kind,) + read_parts(ATOMS[kind], texts[at + 1:behind]), behind)


def atoms_at(texts, at, opening, joint):
    """The needs that an opening at a place leads in, with a joint between, and the place behind them."""
    atoms = []
    # Words may be called like openings and joints, so that their places alone tell what they are.
    sign = opening
    while at < len(texts) and texts[at] == sign:
        atom, at = atom_at(texts, at + 1)
        atoms.append(atom)
        sign = joint
    return (atoms, at)


def holder_at(texts, at):
    """The holder that stands at a place, and the place behind it."""
    if texts[at:at + 1] == ["kids"]:
        return (("kids",) + read_parts(("name", "number"), texts[at + 1:at + 3]), at + 3)
    return (("one",) + read_parts(("name",), texts[at:at + 1]), at + 1)


def read_atom(text):
    """The need that a text writes."""
    texts = text.split(" ")
    atom, behind = atom_at(texts, 0)
    if behind != len(texts):
        raise NoText("something stands behind a need")
    return atom


def read_row(text):
    """The row that a text writes."""
    texts = text.split(" ")
    if texts[0] != "to":
        raise NoText("a row does not begin as it should")
    holder, at = holder_at(texts, 1)
    needs, at = atoms_at(texts, at, "when", "and")
    ends, at = atoms_at(texts, at, "until", "or")
    if at != len(texts):
        raise NoText("something stands behind a row")
    return (holder, needs, ends)


def read_sale(texts):
    """The sale that some texts write."""
    if len(texts) != len(SALE) + 1:
        raise NoText("there are too many parts or too few")
    num, slash, den = texts[-1].partition("/")
    return ("sell",) + read_parts(SALE, texts[:-1]) + (read_number(num), read_number(den))


def read_gift(text):
    """The gift that a text writes."""
    head, colon, rows = text.partition(": ")
    return ("gift",) + read_parts(GIFT, head.split(" ")[1:]) + ([read_row(row) for row in rows.split("; ")],)


def read_order(text):
    """The deed that a text writes."""
    kind, *texts = text.split(" ")
    if kind == "gift":
        return read_gift(text)
    if kind == "sell":
        return read_sale(texts)
    if kind not in ORDERS:
        raise NoText("there is no such kind of order")
    return (kind,) + read_parts(ORDERS[kind], texts)


def joined(things):
    """Numbers and texts with a blank between."""
    return " ".join([str(thing) for thing in things])


def atom_text(atom):
    """A need as a text."""
    return joined(atom)


def holder_text(holder):
    """A holder as a text."""
    return joined(holder) if is_class(holder) else holder[1]


def atoms_text(atoms, opening, joint):
    """Needs as a text that is led in by an opening, the empty text for none."""
    return opening + joint.join([atom_text(atom) for atom in atoms]) if atoms else ""


def row_text(row):
    """A row as a text."""
    holder, needs, ends = row
    return f"to {holder_text(holder)}" + atoms_text(needs, " when ", " and ") + atoms_text(ends, " until ", " or ")


def order_text(deed):
    """A deed as a text."""
    if deed[0] == "gift":
        return joined(deed[:-1]) + ": " + "; ".join([row_text(row) for row in deed[-1]])
    if deed[0] == "sell":
        return f"{joined(deed[:-1])}/{deed[-1]}"
    return joined(deed)
