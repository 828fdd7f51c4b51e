"""Names of services, lines and words."""

LONGEST_NAME = 8


def is_name(text):
    """Return True if a text is one to eight letters from a to z, otherwise False."""
    return 1 <= len(text) <= LONGEST_NAME and all(["a" <= letter <= "z" for letter in text])
