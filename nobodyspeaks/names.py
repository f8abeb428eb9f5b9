"""Names, as the texts of systems have them."""

LETTERS = "abcdefghijklmnopqrstuvwxyz"
FIGURES = "0123456789"
MOST_SIGNS = 12

# These words have a place of their own in texts of systems: as names they would be read as that.
KEPT_WORDS = (
    "system", "domain", "channel", "person", "cell", "tool", "function", "task", "gives", "body", "begin", "end",
    "yes", "policy", "start", "text", "any", "allow", "deny", "anyone", "nobody", "from", "always", "with", "else",
    "edit", "cut", "read", "choose", "write", "take", "trust", "set", "copy", "keep", "recall", "if", "call", "post",
    "ask", "do", "return",
)


def is_name(text):
    """True if the text is a name: 1 to 12 letters and figures, a letter ahead, and no kept word."""
    if not 1 <= len(text) <= MOST_SIGNS or text in KEPT_WORDS:
        return False
    return text[0] in LETTERS and all([sign in LETTERS + FIGURES for sign in text])
