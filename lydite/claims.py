"""Claims about terms, their check and their texts (points 43 to 45)."""

from lydite.apart import applied, projection
from lydite.combinators import combination_of, is_combination
from lydite.errors import BadClaim, LyditeError, NoKind
from lydite.kinds import has_kinds, is_kind, principal
from lydite.looks import MOST_CROWD
from lydite.order import MOST_ROAD, first_steps, is_standard, normal
from lydite.roads import follow, passed
from lydite.terms import MOST_VARIABLE, is_number, is_term

MOST_STEPS = 20000

# For each word, what the further parts of its claims are.
FORMS = {
    "leads": ("term", "term", "road"),
    "same": ("term", "term", "road", "road"),
    "normal": ("term", "term", "number"),
    "never": ("term", "number", "number"),
    "standard": ("term", "road", "road"),
    "apart": ("term", "term", "terms", "number"),
    "each": ("term", "terms", "number"),
    "kinds": ("term", "kinds"),
    "principal": ("term", "kinds"),
    "no kinds": ("term",),
    "combined": ("term", "combination"),
}

# What the members of a part are that is a list.
MEMBERS = {"road": "place", "terms": "term", "kinds": "kind"}


def is_single(value, form):
    """Return True if the value is a part of this form, which is no list."""
    if form == "term":
        return is_term(value)
    if form == "kind":
        return is_kind(value)
    if form == "combination":
        return is_combination(value)
    if form == "number":
        return is_number(value, MOST_STEPS)
    return isinstance(value, str) and all(letter in "bfa" for letter in value)


def is_part(value, form):
    """Return True if the value is a part of this form."""
    if form not in MEMBERS:
        return is_single(value, form)
    if not isinstance(value, list) or len(value) > MOST_ROAD:
        return False
    return all([is_single(member, MEMBERS[form]) for member in value])


def is_claim(value):
    """Return True if the value is a claim of one of the forms."""
    if not isinstance(value, tuple) or len(value) == 0:
        return False
    if not isinstance(value[0], str) or value[0] not in FORMS:
        return False
    forms = FORMS[value[0]]
    if len(value) != len(forms) + 1:
        return False
    return all([is_part(part, form) for part, form in zip(value[1:], forms)])


def shows_leads(s, t, road):
    """Check a claim "leads"."""
    return follow(s, road) == t


def shows_same(s, t, first, second):
    """Check a claim "same"."""
    return follow(s, first) == follow(t, second)


def shows_normal(s, t, steps):
    """Check a claim "normal"."""
    return normal(s, steps)[0] == t


def shows_never(s, least, most):
    """Check a claim "never"."""
    if not least < most <= MOST_ROAD:
        return False
    road = first_steps(s, most)
    if len(road) < most:
        return False
    terms = passed(s, road)
    return terms[least] == terms[most]


def shows_standard(s, road, other):
    """Check a claim "standard"."""
    return is_standard(s, other) and follow(s, road) == follow(s, other)


def shows_apart(s, t, arguments, steps):
    """Check a claim "apart"."""
    if normal(applied(s, arguments), steps)[0] != projection(0, 2):
        return False
    return normal(applied(t, arguments), steps)[0] == projection(1, 2)


def shows_each(s, terms, steps):
    """Check a claim "each"."""
    if not 1 <= len(terms) <= MOST_CROWD:
        return False
    for index, term in enumerate(terms):
        if normal(applied(s, [term]), steps)[0] != projection(index, len(terms)):
            return False
    return True


def shows_kinds(s, kinds):
    """Check a claim "kinds"."""
    return has_kinds(s, kinds)


def shows_principal(s, kinds):
    """Check a claim "principal"."""
    return principal(s) == kinds


def shows_no_kinds(s):
    """Check a claim "no kinds"."""
    try:
        principal(s)
    except NoKind:
        return True
    return False


def shows_combined(s, combination):
    """Check a claim "combined"."""
    return combination_of(s) == combination


CHECKS = {
    "leads": shows_leads,
    "same": shows_same,
    "normal": shows_normal,
    "never": shows_never,
    "standard": shows_standard,
    "apart": shows_apart,
    "each": shows_each,
    "kinds": shows_kinds,
    "principal": shows_principal,
    "no kinds": shows_no_kinds,
    "combined": shows_combined,
}


def is_shown(claim):
    """Return True if the value is a claim and its condition holds."""
    if not is_claim(claim):
        return False
    shows = CHECKS[claim[0]]
    parts = claim[1:]
    try:
        return shows(*parts)
    except LyditeError:
        return False


def single_text(part):
    """Return the text of a part that is no list."""
    if isinstance(part, tuple):
        return " ".join([str(node) for node in part])
    return str(part)


def claim_text(claim):
    """Return the text of a claim."""
    texts = []
    for part in claim:
        if isinstance(part, list):
            texts.append(str(len(part)))
            texts.extend([single_text(member) for member in part])
        else:
            texts.append(single_text(part))
    return ";".join(texts)


def read_node(text):
    """Return the node or number with this text, or the text itself."""
    # Longer numbers are too great for a claim, and Python may refuse to read them.
    if text.isascii() and text.isdigit() and len(text) <= len(str(MOST_VARIABLE)):
        return int(text)
    return text


def read_single(text, form):
    """Return the part of this form that a text may stand for."""
    if form == "place":
        return text
    if form == "number":
        return read_node(text)
    return tuple([read_node(word) for word in text.split(" ")])


def read_list(texts, form):
    """Return the list of this form that stands at the beginning of the texts.

    Raise BadClaim.
    """
    count = read_node(texts[0])
    if not is_number(count, MOST_ROAD) or count >= len(texts):
        raise BadClaim("the text has no list where one should stand")
    return [read_single(text, MEMBERS[form]) for text in texts[1:count + 1]]


def read_claim(text):
    """Return the claim of a text. Raise BadClaim."""
    texts = text.split(";")
    word = texts[0]
    if word not in FORMS:
        raise BadClaim("the text begins with no word of a claim")
    parts = [word]
    texts = texts[1:]
    for form in FORMS[word]:
        if len(texts) == 0:
            raise BadClaim("the text ends too early")
        if form in MEMBERS:
            part = read_list(texts, form)
            texts = texts[len(part) + 1:]
        else:
            part = read_single(texts[0], form)
            texts = texts[1:]
        parts.append(part)
    claim = tuple(parts)
    # Zeros in front of a number and parts behind the last one are in no text.
    if not is_claim(claim) or claim_text(claim) != text:
        raise BadClaim("the text is the text of no claim")
    return claim
