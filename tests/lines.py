"""Calls by their names, and the answers cut into one list a call."""

from forgottenplaces.tables import answers

NUMBERS = {
    "begin": 0, "table": 1, "cell": 2, "drop": 3, "show": 4, "word": 5, "chances_from": 6, "spread": 7,
    "far": 8, "delta": 9, "worst": 10, "most": 11, "mixes": 12, "steps": 13, "kept": 14, "begun": 15,
    "stays": 16, "back": 17, "state": 18,
}


def encoded(calls):
    flat = []
    for name, *arguments in calls:
        flat.append(NUMBERS[name])
        for argument in arguments:
            flat.extend([len(argument), *argument] if isinstance(argument, list) else [argument])
    return flat


def decoded(told):
    parts = []
    at = 0
    while at < len(told):
        end = at + 1 + told[at]
        assert end <= len(told)
        parts.append(told[at + 1:end])
        at = end
    return parts


def ask(*calls):
    return decoded(answers(encoded(calls)))


def last(*calls):
    return ask(*calls)[-1]
