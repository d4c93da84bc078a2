"""The names of the interface of DOC.md, file by file, as far as they are built."""

REFUSALS = (
    "NoName", "NoAmount", "Taken", "NoPurse", "TooLittle", "NoRow", "Twice", "Uneven",
    "Fallen", "NoDay", "NoPact", "NotOpen", "NoPart", "Already", "NotAside",
)

INTERFACE = {
    "errors.py": ("BookError",) + REFUSALS,
    "words.py": ("name_of", "amount_of"),
}
