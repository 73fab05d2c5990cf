"""Names, steps and answers in words."""


def names_or(names, word):
    """Tell the names with a blank between each two, or this word where there are none."""
    if not names:
        return word
    return " ".join(names)


def step_in_words(step):
    """Tell a step's device and position."""
    device, position = step
    if position is None:
        return f"{device} free"
    return f"{device} {position}"


def answer_in_words(answer):
    """Tell the answer to a deed."""
    if answer[0] == "refused":
        return " ".join([answer[0], answer[1]] + [str(thing) for thing in answer[2]])
    if answer[1] is None:
        return answer[0]
    return f"{answer[0]} {step_in_words(answer[1])}"
