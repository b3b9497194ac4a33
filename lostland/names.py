"""Names of sheets and marks."""


def is_name(value):
    """Whether any value is a name: 1 to 6 lowercase letters."""
    if not isinstance(value, str) or len(value) > 6:
        return False
    return value.isascii() and value.isalpha() and value.islower()
