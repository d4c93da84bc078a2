"""The names of the interface of DOC.md, file by file."""

REFUSALS = (
    "NoName", "NoAmount", "Taken", "NoPurse", "TooLittle", "NoRow", "Twice", "Uneven",
    "Fallen", "NoDay", "NoPact", "NotOpen", "NoPart", "Already", "NotAside",
)

INTERFACE = {
    "errors.py": ("BookError",) + REFUSALS,
    "words.py": ("name_of", "amount_of"),
    "settling.py": ("greatest", "chain"),
    "book.py": ("Book",),
}

# What each function and each method of Book is passed, by name.
FUNCTIONS = {
    "words": {"name_of": ["thing"], "amount_of": ["thing"]},
    "settling": {"greatest": ["full", "needs", "done"], "chain": ["name", "full", "needs", "done"]},
}

METHODS = {
    "open_purse": ["name"],
    "put": ["purse", "amount"],
    "take": ["purse", "amount"],
    "tell": ["name", "parts", "gains", "needs", "last"],
    "set_aside": ["purse", "pact"],
    "draw_back": ["purse", "pact"],
    "call_off": ["pact"],
    "pass_days": ["count"],
    "settle": [],
    "why_not": ["pact"],
    "purses": [],
    "told": [],
    "free_of": ["purse"],
    "aside_of": ["purse"],
    "state_of": ["pact"],
    "inside_of": ["pact"],
    "full": ["pact"],
}
