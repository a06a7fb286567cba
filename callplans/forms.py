"""The forms of plans.

A plan is kept as the flat tuple of its forms, each form ahead of the plans within it, so that plans of any depth
are handled by loops. A form is the tuple of its own words, with integers for its numbers: ("call", "db"),
("retry", 2, 5), ("then",). Read from its end, such a tuple gives the plans within a form ahead of that form, and of
two such plans the second one first: a list from which one pops them gives them back in the order of the text.
"""

PAIR_WORDS = ("then", "else", "both", "either")
PREFIX_WORDS = ("within", "retry")
HOLE = ("hole",)
MARK = ("within", "?")
# `retry` puts an else, a pause and a then between two tries.
FORMS_BETWEEN_TRIES = 3


def plans_within(form):
    """Returns the number of plans within a form."""
    if form[0] in PAIR_WORDS:
        return 2
    return 1 if form[0] in PREFIX_WORDS else 0


def ends_of(forms):
    """Returns for each form the place behind the plan that begins with it."""
    ends = [0] * len(forms)
    for place in reversed(range(len(forms))):
        end = place + 1
        for _ in range(plans_within(forms[place])):
            end = ends[end]
        ends[place] = end
    return ends


def parts_at(forms, ends, place):
    """Returns the places of the plans within the form at a place, where ends is what ends_of told of the forms."""
    parts = []
    part = place + 1
    for _ in range(plans_within(forms[place])):
        parts.append(part)
        part = ends[part]
    return parts


def is_in_retry(forms, place):
    """Tells whether the form at a place stands inside of a retry."""
    ends = ends_of(forms)
    return any([form[0] == "retry" and start < place < ends[start] for start, form in enumerate(forms)])


def text_of(forms):
    """Returns the text of a plan."""
    texts = []
    for form in forms[::-1]:
        own = " ".join([str(word) for word in form])
        if form[0] in PAIR_WORDS:
            first = texts.pop()
            second = texts.pop()
            texts.append(f"({first} {own} {second})")
        elif form[0] in PREFIX_WORDS:
            inner = texts.pop()
            texts.append(f"{own} {inner}")
        else:
            texts.append(own)
    return texts.pop()


def size_around(form, calls, withins, many):
    """Returns the written-out size of a form around plans that together have a size."""
    if form[0] == "retry":
        tries = form[1]
        return (tries * calls, tries * withins, tries * many + (tries - 1) * FORMS_BETWEEN_TRIES)
    if form[0] == "call":
        calls += 1
    if form[0] == "within":
        withins += 1
    return (calls, withins, many + 1)


def size_of(forms):
    """Returns the numbers of calls, withins and forms of a plan without writing it out, which may be very long."""
    sizes = []
    for form in forms[::-1]:
        calls = withins = many = 0
        for _ in range(plans_within(form)):
            inner = sizes.pop()
            calls += inner[0]
            withins += inner[1]
            many += inner[2]
        sizes.append(size_around(form, calls, withins, many))
    return sizes.pop()


def services_of(forms):
    """Returns the services of the calls of a plan that has few calls when it is written out."""
    lists = []
    for form in forms[::-1]:
        services = [form[1]] if form[0] == "call" else []
        for _ in range(plans_within(form)):
            services = services + lists.pop()
        if form[0] == "retry":
            services = services * form[1]
        lists.append(services)
    return lists.pop()


def written_out(forms):
    """Returns the forms of a written-out plan, which has no retries; without a limit of size it may be very long."""
    parts = []
    for form in forms[::-1]:
        if form[0] == "retry":
            inner = parts.pop()
            failing = (("else",),) + inner + (("then",), ("pause", form[2]))
            parts.append(failing * (form[1] - 1) + inner)
        else:
            part = (form,)
            for _ in range(plans_within(form)):
                part = part + parts.pop()
            parts.append(part)
    return parts.pop()
