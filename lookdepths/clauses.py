"""Literals and clauses: what is one, and what is made of them.

The functions of the interface look at their arguments; `bare`, `opposite`, `in_order` and the like take what
surely is a literal, or literals, and are shared with the other files.
"""

from lookdepths.errors import InvalidClause, InvalidLiteral, InvalidMap, Refused

MOST_LETTERS = 8


def is_variable(value):
    """Return whether any object is a variable."""
    if not isinstance(value, str) or len(value) > MOST_LETTERS:
        return False
    # All three are needed: letters of other alphabets and great ones are none here.
    return value.isascii() and value.isalpha() and value.islower()


def is_literal(value):
    """Return whether any object is a literal."""
    return isinstance(value, str) and is_variable(value.removeprefix("-"))


def is_clause(value):
    """Return whether any object is a clause."""
    if not isinstance(value, tuple):
        return False
    last = ""
    for literal in value:
        if not is_literal(literal) or literal <= last:
            return False
        last = literal
    return not has_contraries(value)


def bare(literal):
    """Return the variable of a literal."""
    return literal.removeprefix("-")


def opposite(literal):
    """Return the contrary of a literal."""
    if literal.startswith("-"):
        return bare(literal)
    return "-" + literal


def in_order(literals):
    """Return the ascending tuple of the unlike ones among literals."""
    return tuple(sorted(set(literals)))


def ascends(values):
    """Return whether each string of a list or tuple is greater than the one ahead of it."""
    return all([low < high for low, high in zip(values, values[1:])])


def are_literals(values):
    """Return whether a list or tuple holds literals alone."""
    return all([is_literal(value) for value in values])


def has_contraries(literals):
    """Return whether there are two contrary ones among literals."""
    return any([literal[1:] in literals for literal in literals if literal[0] == "-"])


def is_name_list(value):
    """Return whether any object is an ascending list of variables."""
    return isinstance(value, list) and all([is_variable(name) for name in value]) and ascends(value)


def is_renaming(value):
    """Return whether any object is a dictionary from variables to unlike variables."""
    if not isinstance(value, dict):
        return False
    names = list(value.values())
    if not all([is_variable(name) for name in list(value) + names]):
        return False
    return len(set(names)) == len(names)


def need_literal(literal):
    """Raise InvalidLiteral unless it is a literal."""
    if not is_literal(literal):
        raise InvalidLiteral(literal)


def need_clause(clause):
    """Raise InvalidClause unless it is a clause."""
    if not is_clause(clause):
        raise InvalidClause(clause)


def need_clauses(one, other):
    """Raise InvalidClause for the first one of two that is no clause."""
    need_clause(one)
    need_clause(other)


def contrary(literal):
    """Return the contrary of a literal."""
    need_literal(literal)
    return opposite(literal)


def variable_of(literal):
    """Return the variable of a literal."""
    need_literal(literal)
    return bare(literal)


def clause_of(literals):
    """Return the clause of a list of literals in any order, doubles allowed."""
    if not isinstance(literals, list) or not are_literals(literals) or has_contraries(literals):
        raise InvalidClause(literals)
    return in_order(literals)


def variables_in(clause):
    """Return the ascending list of the variables of a clause."""
    need_clause(clause)
    return sorted([bare(literal) for literal in clause])


def is_within(one, other):
    """Return whether all literals of the one clause are the other one's."""
    need_clauses(one, other)
    return all([literal in other for literal in one])


def common(one, other):
    """Return the clause of the literals that both clauses have."""
    need_clauses(one, other)
    return tuple([literal for literal in one if literal in other])


def united(one, other):
    """Return the clause of the literals of either clause; Refused if two of them are contrary."""
    need_clauses(one, other)
    literals = one + other
    if has_contraries(literals):
        raise Refused(other)
    return in_order(literals)


def meeting(one, other):
    """Return the variable at which two clauses can be put together, None if there is none."""
    need_clauses(one, other)
    return meeting_of(one, other)


def meeting_of(one, other):
    """Return the variable at which what surely are two clauses can be put together, None if there is none."""
    clashing = [literal for literal in one if opposite(literal) in other]
    if len(clashing) != 1:
        return None
    return bare(clashing[0])


def put_together(one, other):
    """Return the clause of what is left of two clauses at their meeting; Refused if there is none."""
    variable = meeting(one, other)
    if variable is None:
        raise Refused(other)
    return joined_at(one, other, variable)


def joined_at(one, other, variable):
    """Return the clause of what is left of two clauses that can be put together at a variable."""
    return in_order([literal for literal in one + other if bare(literal) != variable])


def turned(clause, variables):
    """Return a clause with the signs of some variables turned, whether or not it has them."""
    need_clause(clause)
    if not is_name_list(variables):
        raise InvalidMap(variables)
    return in_order([opposite(literal) if bare(literal) in variables else literal for literal in clause])


def renamed(clause, sent):
    """Return a clause with its variables sent by a dictionary to unlike ones."""
    need_clause(clause)
    if not is_renaming(sent) or not all([name in sent for name in variables_in(clause)]):
        raise InvalidMap(sent)
    return in_order([sent_literal(literal, sent) for literal in clause])


def sent_literal(literal, sent):
    """Return a literal with its variable sent, its sign kept."""
    if literal.startswith("-"):
        return "-" + sent[bare(literal)]
    return sent[literal]
