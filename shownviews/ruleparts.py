"""The parts of rules: terms, conditions, and which variables they bind. What is handed in here is a rule already."""

COMPARISONS = ("less", "same", "unlike")
COUNTS = ("many", "sum", "least", "greatest")
BLANK = ("any",)


def is_count(condition):
    return condition[0] in COUNTS


def name_in(condition):
    """The name that a condition asks, None of a comparison."""
    if condition[0] in COMPARISONS:
        return None
    return condition[2] if is_count(condition) else condition[1]


def terms_in(condition):
    """The terms of a condition, those of a comparison its two; n of a count is none of them."""
    if condition[0] in COMPARISONS:
        return condition[1:]
    return condition[3] if is_count(condition) else condition[2]


def head_name(rule):
    return rule[0][0]


def is_variable_term(term):
    """Of terms and blanks just the variables are pairs."""
    return isinstance(term, tuple) and len(term) == 2


def variables_in(terms):
    """The numbers of the variables of some terms, ascending."""
    return sorted({term[1] for term in terms if is_variable_term(term)})


def variables_at(condition):
    """The numbers of all variables of a condition, ascending, n of a count among them."""
    told = variables_in(terms_in(condition))
    return sorted(set([*told, condition[1]])) if is_count(condition) else told


def variables_of(rule):
    """The numbers of all variables of a rule, ascending."""
    head, body = rule
    told = variables_in(head[1])
    for condition in body:
        told.extend(variables_at(condition))
    return sorted(set(told))


def are_known(numbers, known):
    """Whether all variables of these numbers are keys of a dict."""
    return all([n in known for n in numbers])


def bound_in(rule):
    """The variables that are bound, as the keys of a dict."""
    body = rule[1]
    bound = {n: True for condition in body if condition[0] == "is" for n in variables_in(condition[2])}
    counts = [condition for condition in body if is_count(condition)]
    # A count may hang on n of any other one, so each pass may bind what an earlier one waits for.
    for _ in counts:
        for condition in counts:
            if are_known(variables_in(condition[3]), bound):
                bound[condition[1]] = True
    return bound


def is_safe(rule):
    return are_known(variables_of(rule), bound_in(rule))
