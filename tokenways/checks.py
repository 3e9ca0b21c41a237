"""Checks of what is shown about a net of places and rules.

A net is two lists: start, the tokens on each of the n places, and rules,
which has for each rule the n numbers that it takes and then the n that it puts.
"""

MOST_PLACES = 16
MOST_RULES = 64
MOST_IN_ROW = 1048576

OUT_OF_RANGE = -22
NOT_DOABLE = -2


def count_rules(start, rules):
    """How many rules the flat list rules makes."""
    # Without a place no rule has a length, so none can be counted off.
    if len(start) == 0:
        return 0
    return len(rules) // (2 * len(start))


def net_is_taken(start, rules):
    """Whether the net has as many places and rules as are taken here."""
    if len(start) < 1 or len(start) > MOST_PLACES:
        return False
    k = count_rules(start, rules)
    return k >= 1 and k <= MOST_RULES


def row_is_taken(row, k):
    """Whether row is not too long and each of its bytes is one of k rules."""
    if len(row) > MOST_IN_ROW:
        return False
    for rule in row:
        if rule >= k:
            return False
    return True


def can_be_done(tokens, rules, rule):
    """Whether on each place lie as many tokens as the rule takes."""
    n = len(tokens)
    takes_from = 2 * n * rule
    for place in range(n):
        if tokens[place] < rules[takes_from + place]:
            return False
    return True


def after_rule(tokens, rules, rule):
    """What lies on each place once the rule, which can be done, is done."""
    n = len(tokens)
    takes_from = 2 * n * rule
    puts_from = takes_from + n
    return [tokens[place] - rules[takes_from + place] + rules[puts_from + place] for place in range(n)]


def after_row(start, rules, row):
    """What lies on each place after all of row, or None where some rule can't be done."""
    tokens = list(start)
    for rule in row:
        if not can_be_done(tokens, rules, rule):
            return None
        tokens = after_rule(tokens, rules, rule)
    return tokens


def tk_run(start, rules, row):
    """Do row from start on: [0] and what then lies on each place, or a refusal alone."""
    # All of row is looked at before any of it is done: -22 is told ahead of -2.
    if not net_is_taken(start, rules) or not row_is_taken(row, count_rules(start, rules)):
        return [OUT_OF_RANGE]
    tokens = after_row(start, rules, row)
    if tokens is None:
        return [NOT_DOABLE]
    return [0] + tokens


def lies_there(tokens, goal):
    """Whether on each place lie at least as many tokens as goal says."""
    for place in range(len(goal)):
        if tokens[place] < goal[place]:
            return False
    return True


def tk_can(start, rules, goal, row):
    """[1] where row can be done from start on and then at least goal lies there, else [0] or a refusal."""
    if not net_is_taken(start, rules) or not row_is_taken(row, count_rules(start, rules)):
        return [OUT_OF_RANGE]
    tokens = after_row(start, rules, row)
    if tokens is None or not lies_there(tokens, goal):
        return [0]
    return [1]
