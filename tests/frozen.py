"""Everything in a value, private parts included, in a form that is compared by ==."""


def frozen(value):
    if isinstance(value, (list, tuple)):
        return value.__class__.__name__, [frozen(item) for item in value]
    if isinstance(value, dict):
        return "dict", [(frozen(key), frozen(item)) for key, item in value.items()]
    if hasattr(value, "__dict__"):
        return value.__class__.__name__, frozen(vars(value))
    return value
