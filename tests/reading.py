"""Rows of words as the document describes them: which word is the first wrong one, read word by word."""

import re

WORD = re.compile(r"[a-z]{1,8}")
NUMBER = re.compile(r"0|[1-9][0-9]{0,18}")


def is_word(word):
    return word is not None and WORD.fullmatch(word) is not None


def is_number(word):
    return word is not None and NUMBER.fullmatch(word) is not None


def feature_word(rows, before, word):
    """Tell whether a word, or None for the end, can stand behind those before it in a row `feature`."""
    if len(before) == 1:
        return is_word(word) and word not in [row[1] for row in rows if row[0] == "feature"]
    return word is None or is_word(word) and (len(before) == 2 or before[-1] < word)


def is_word_of_note(rows, before, word):
    """Tell the same of a row `is`."""
    names = [row[1] for row in rows if row[0] == "feature"]
    if len(before) == 1:
        earlier = names.index(rows[-1][1]) if rows[-1][0] == "is" else -1
        return word in names and names.index(word) > earlier
    if word is None:
        return len(before) > 2
    values = [row[2:] for row in rows if row[0] == "feature" and row[1] == before[1]][0]
    return word in values and (len(before) == 2 or before[-1] < word)


def entry_word(rows, before, word):
    """Tell the same of a row `thing` or `claim`."""
    if len(before) == 1:
        labels = [row[1] for row in rows if row[0] in ("thing", "claim")]
        same = [row[1] for row in rows if row[0] == before[0]]
        return is_word(word) and word not in labels and all(label < word for label in same)
    if len(before) == (3 if before[0] == "thing" else 5):
        return word is None
    return is_number(word)


def office_word(rows, before, word):
    """Tell the same of any row of the text of an office; rows are the rows before it."""
    if before:
        tests = {"feature": feature_word, "is": is_word_of_note, "thing": entry_word, "claim": entry_word}
        return tests[before[0]](rows, before, word)
    if not rows:
        return word == "feature"
    kinds = [row[0] for row in rows]
    allowed = {"claim", "feature", "is", "thing"}
    if "thing" in kinds:
        allowed -= {"feature"}
    if "claim" in kinds:
        allowed -= {"feature", "thing"}
    if kinds[-1] == "feature":
        allowed -= {"is"}
    return word in allowed


def changed_texts(text, strange):
    """Yield texts in which one word is changed, left out, put in or doubled, or a row is cut at a word."""
    rows = [line.split(" ") for line in text.split("\n")]
    for row, words in enumerate(rows):
        for place in range(len(words) + 1):
            changed = [words[:place] + [word] + words[place:] for word in strange]
            if place < len(words):
                changed += [words[:place] + [word] + words[place + 1:] for word in strange]
                changed += [words[:place] + words[place + 1:], words[:place + 1] + words[place:], words[:place]]
            for line in changed:
                yield "\n".join(" ".join(one) for one in rows[:row] + [line] + rows[row + 1:])


def first_wrong(text, can_stand):
    """Return the row and the word of the first word of a text that is wrong, or None."""
    rows = []
    for row, line in enumerate(text.split("\n")):
        words = line.split(" ")
        for place in range(len(words) + 1):
            word = words[place] if place < len(words) else None
            if not can_stand(rows, words[:place], word):
                return row, place
        rows.append(words)
    return None
