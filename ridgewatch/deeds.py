"""Deeds of boards, and logs of them, as texts; BadText tells where a text goes wrong."""

from ridgewatch.texts import Reader, fraction_text

WORDS = ("heap ", "split ", "drop ", "put ", "take ", "level ")


def deed_text(deed):
    """The text of a deed."""
    word = deed[0]
    if word == "drop":
        return f"{word} {deed[1]}"
    if word in ("heap", "split"):
        return f"{word} {deed[1]} {fraction_text(deed[2])}"
    return f"{word} {fraction_text(deed[1])}"


def log_text(deeds):
    """The text of the deeds, one a line."""
    return "\n".join([deed_text(deed) for deed in deeds])


def pass_deed(reader):
    """The deed that comes next; the reader goes beyond it."""
    word = reader.pass_word(WORDS).strip()
    if word == "drop":
        return (word, reader.whole())
    if word in ("heap", "split"):
        i = reader.whole()
        reader.pass_sign(" ")
        return (word, i, reader.ratio())
    return (word, reader.ratio())


def read_deed(text):
    """The deed that is written so."""
    reader = Reader(text)
    deed = pass_deed(reader)
    reader.pass_end()
    return deed


def read_log(text):
    """The tuple of the deeds that are written so."""
    if text == "":
        return ()
    reader = Reader(text)
    deeds = [pass_deed(reader)]
    while reader.sees_sign("\n"):
        reader.at += 1
        deeds.append(pass_deed(reader))
    reader.pass_end()
    return tuple(deeds)
