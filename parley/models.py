"""The three models, and what of offers counts in them."""

from parley.errors import UnknownModel

KINDS_IN_MODELS = {
    "traces": ("trace",),
    "failures": ("trace", "failure"),
    "divergences": ("trace", "divergence", "failure"),
}


def is_model(word):
    """Whether a word is the name of a model."""
    return word in KINDS_IN_MODELS


def check_model(model):
    """Raises UnknownModel if a word is not the name of a model."""
    if not is_model(model):
        raise UnknownModel(model)


def looks_at(model, kind):
    """Whether a model looks at a kind of behaviours."""
    return kind in KINDS_IN_MODELS[model]


def has_part(rows, offers):
    """Whether one of several tuples of actions has no actions but those of the offers."""
    known = {action: True for action in offers}
    for row in rows:
        if is_within(row, known):
            return True
    return False


def is_within(row, known):
    """Whether all actions of a tuple are keys of a dict."""
    for action in row:
        if action not in known:
            return False
    return True


def smallest_offers(rows):
    """The ascending tuple of those of several different offers of which no other one is a part."""
    found = []
    for offers in sorted(rows, key=len):
        if not has_part(found, offers):
            found.append(offers)
    return tuple(sorted(found))
