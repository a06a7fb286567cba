"""The outcome of a plan, form by form, from the replies of its calls."""

from callplans.forms import ends_of

NEVER = ("never",)
# The word with which the first part has to end so that the second one comes next.
GOES_ON = {"then": "ok", "else": "fail"}
# The word that ends both parts at the same time, as soon as one of them ends with it.
DECIDES = {"both": "fail", "either": "ok"}


def outcome_in_turn(word, first, second):
    """Returns the outcome of two parts, where the second one comes behind a first one that ends with a word."""
    if first[0] != word:
        return first
    if second == NEVER:
        return NEVER
    return (second[0], first[1] + second[1])


def outcome_at_once(word, first, second):
    """Returns the outcome of two parts at the same time, where a word decides as soon as one of them ends with it."""
    deciding = [part[1] for part in (first, second) if part[0] == word]
    if deciding:
        return (word, min(deciding))
    if first == NEVER or second == NEVER:
        return NEVER
    return (first[0], max(first[1], second[1]))


def outcome_of_pair(word, first, second):
    """Returns the outcome of two parts with a word between them."""
    if word in GOES_ON:
        return outcome_in_turn(GOES_ON[word], first, second)
    return outcome_at_once(DECIDES[word], first, second)


def outcome_within(limit, inner):
    """Returns the outcome of a within around an outcome."""
    if inner == NEVER or inner[1] > limit:
        return ("fail", limit)
    return inner


def outcomes_at(forms, replies):
    """Returns for each form of a written-out plan without holes the outcome of the plan that begins with it."""
    ends = ends_of(forms)
    left = list(replies)
    found = [NEVER] * len(forms)
    # Parts stand behind the form around them, so from the end they come first.
    for place in reversed(range(len(forms))):
        form = forms[place]
        if form[0] == "call":
            found[place] = left.pop()
        elif form[0] == "pause":
            found[place] = ("ok", form[1])
        elif form[0] == "fail":
            found[place] = ("fail", 0)
        elif form[0] == "within":
            found[place] = outcome_within(form[1], found[place + 1])
        else:
            found[place] = outcome_of_pair(form[0], found[place + 1], found[ends[place + 1]])
    return found


def outcome_of(forms, replies):
    """Returns the outcome of a written-out plan without holes, whose calls have the replies."""
    return outcomes_at(forms, replies)[0]
