"""Checks of what is shown about a net of places and rules.

A net is two lists: start, the tokens on each of the n places, and rules,
which has for each rule the n numbers that it takes and then the n that it puts.
"""

MOST_PLACES = 16
MOST_RULES = 64
MOST_IN_ROW = 1048576
MOST_IN_LIST = 65536
MOST_IN_WAY = 65536

# The entries of a way from this one on look back; those below are rules.
FIRST_LOOK_BACK = 64

# In the stead of a bound this says that there is none. It is the greatest number
# handed in, so whatever is handed in is at most this and never more than this.
NO_BOUND = 4294967295

# Ever more tokens, as a number beyond all that may lie there along a way: start
# and each of at most 65536 rules bring fewer than 2^32, which is below 2^49 in all.
EVER_MORE = 18446744073709551616

OUT_OF_RANGE = -22
NOT_DOABLE = -2


def count_rules(start, rules):
    """How many rules the flat list rules makes."""
    # Without a place no rule has a length, so none can be counted off.
    if len(start) == 0:
        return 0
    return len(rules) // (2 * len(start))


def net_is_taken(start, rules):
    """Whether the net has as many places and rules as are taken here."""
    if len(start) < 1 or len(start) > MOST_PLACES:
        return False
    k = count_rules(start, rules)
    return k >= 1 and k <= MOST_RULES


def row_is_taken(row, k):
    """Whether row is not too long and each of its bytes is one of k rules."""
    if len(row) > MOST_IN_ROW:
        return False
    for rule in row:
        if rule >= k:
            return False
    return True


def can_be_done(tokens, rules, rule):
    """Whether on each place lie as many tokens as the rule takes."""
    n = len(tokens)
    takes_from = 2 * n * rule
    for place in range(n):
        if tokens[place] < rules[takes_from + place]:
            return False
    return True


def after_rule(tokens, rules, rule):
    """What lies on each place once the rule, which can be done, is done."""
    n = len(tokens)
    takes_from = 2 * n * rule
    puts_from = takes_from + n
    return [tokens[place] - rules[takes_from + place] + rules[puts_from + place] for place in range(n)]


def after_row(start, rules, row):
    """What lies on each place after all of row, or None where some rule can't be done."""
    tokens = list(start)
    for rule in row:
        if not can_be_done(tokens, rules, rule):
            return None
        tokens = after_rule(tokens, rules, rule)
    return tokens


def tk_run(start, rules, row):
    """Do row from start on: [0] and what then lies on each place, or a refusal alone."""
    # All of row is looked at before any of it is done: -22 is told ahead of -2.
    if not net_is_taken(start, rules) or not row_is_taken(row, count_rules(start, rules)):
        return [OUT_OF_RANGE]
    tokens = after_row(start, rules, row)
    if tokens is None:
        return [NOT_DOABLE]
    return [0] + tokens


def lies_there(tokens, goal):
    """Whether on each place lie at least as many tokens as goal says."""
    for place in range(len(goal)):
        if tokens[place] < goal[place]:
            return False
    return True


def tk_can(start, rules, goal, row):
    """[1] where row can be done from start on and then at least goal lies there, else [0] or a refusal."""
    if not net_is_taken(start, rules) or not row_is_taken(row, count_rules(start, rules)):
        return [OUT_OF_RANGE]
    tokens = after_row(start, rules, row)
    if tokens is None or not lies_there(tokens, goal):
        return [0]
    return [1]


def split_list(bounds, n):
    """The flat list of bounds, split into bounds of n numbers each."""
    return [bounds[first:first + n] for first in range(0, len(bounds), n)]


def list_is_taken(bounds, n):
    """Whether the flat list has not too many bounds of n numbers each."""
    return len(bounds) // n <= MOST_IN_LIST


def bound_after_rule(bound, taken, put):
    """What a rule that takes and puts so many on a place makes of the bound there."""
    if bound == NO_BOUND:
        return NO_BOUND
    # A number as great as this lies within no bound alone, just as no bound does.
    return min(bound - taken + put, NO_BOUND)


def bounds_after_rule(bounds, rules, rule):
    """What the rule, which can be done from tokens within the bounds, makes of them."""
    n = len(bounds)
    takes_from = 2 * n * rule
    puts_from = takes_from + n
    return [
        bound_after_rule(bounds[place], rules[takes_from + place], rules[puts_from + place])
        for place in range(n)
    ]


def room_at(listed, place):
    """How much the listed bounds leave room for at a place: a pair of lists.

    The first has the different bounds there, from great to small. The second has
    at i, as bits, which of the listed are at least as great there as one of the
    first i of these: bit b stands for listed[b].
    """
    heights = []
    roomy = [0]
    for number in sorted(range(len(listed)), key=lambda each: listed[each][place], reverse=True):
        height = listed[number][place]
        if len(heights) == 0 or heights[-1] != height:
            heights.append(height)
            roomy.append(roomy[-1])
        roomy[-1] = roomy[-1] | (1 << number)
    return (heights, roomy)


def which_have_room(room, amount):
    """As bits, which of the listed bounds are at least amount at the place that room is of."""
    heights = room[0]
    low = 0
    high = len(heights)
    while low < high:
        middle = (low + high) // 2
        if heights[middle] >= amount:
            low = middle + 1
        else:
            high = middle
    return room[1][low]


def lies_within_some(amounts, rooms):
    """Whether on no place lies more than one and the same of the listed bounds lets lie there."""
    roomy = which_have_room(rooms[0], amounts[0])
    for place in range(1, len(amounts)):
        roomy = roomy & which_have_room(rooms[place], amounts[place])
    return roomy != 0


def rules_stay_within(bounds, rules, rooms):
    """Whether what each rule that can be done makes of the bounds lies within some of the listed."""
    for rule in range(count_rules(bounds, rules)):
        # Tokens within the bounds may lie just at them, so a rule is tried from there.
        if can_be_done(bounds, rules, rule):
            if not lies_within_some(bounds_after_rule(bounds, rules, rule), rooms):
                return False
    return True


def list_holds(start, rules, listed):
    """Whether start lies within some of the listed bounds, and no rule leads out of them."""
    # To try each of the listed against each other would take hours where there are many.
    rooms = [room_at(listed, place) for place in range(len(start))]
    if not lies_within_some(start, rooms):
        return False
    for bounds in listed:
        if not rules_stay_within(bounds, rules, rooms):
            return False
    return True


def tk_cannot(start, rules, goal, bounds):
    """[1] where the list of bounds holds and goal is beyond each of them, else [0] or a refusal."""
    if not net_is_taken(start, rules) or not list_is_taken(bounds, len(start)):
        return [OUT_OF_RANGE]
    listed = split_list(bounds, len(start))
    for each in listed:
        # Goal within one of the bounds: the list leaves open that it comes about.
        if lies_there(each, goal):
            return [0]
    return [1] if list_holds(start, rules, listed) else [0]


def way_is_taken(way, k):
    """Whether way is not too long and each of its entries below 64 is one of k rules."""
    if len(way) > MOST_IN_WAY:
        return False
    for entry in way:
        if entry >= k and entry < FIRST_LOOK_BACK:
            return False
    return True


def after_rule_of_way(tokens, rules, rule):
    """What lies on each place once the rule is done: ever more stays so."""
    done = after_rule(tokens, rules, rule)
    return [EVER_MORE if tokens[place] == EVER_MORE else done[place] for place in range(len(tokens))]


def after_look_back(tokens, before):
    """What lies on each place once it's seen that nowhere less lies than before."""
    return [EVER_MORE if tokens[place] > before[place] else tokens[place] for place in range(len(tokens))]


def after_entry(gone, rules, entry):
    """What lies on each place after one more entry of a way, or None where it can't be gone.

    gone has at j what lay after the first j entries.
    """
    tokens = gone[-1]
    if entry < FIRST_LOOK_BACK:
        return after_rule_of_way(tokens, rules, entry) if can_be_done(tokens, rules, entry) else None
    j = entry - FIRST_LOOK_BACK
    # gone has one more than there are entries before this one.
    if j >= len(gone) or not lies_there(tokens, gone[j]):
        return None
    return after_look_back(tokens, gone[j])


def after_way(start, rules, way):
    """What lies on each place at the end of way, or None where it can't be gone so far."""
    gone = [list(start)]
    for entry in way:
        tokens = after_entry(gone, rules, entry)
        if tokens is None:
            return None
        gone.append(tokens)
    return gone[-1]


def tk_grows(p, start, rules, way):
    """[1] where way can be gone to its end and then ever more lies on place p, else [0] or a refusal."""
    if not net_is_taken(start, rules) or p >= len(start):
        return [OUT_OF_RANGE]
    if not way_is_taken(way, count_rules(start, rules)):
        return [OUT_OF_RANGE]
    tokens = after_way(start, rules, way)
    if tokens is None or tokens[p] != EVER_MORE:
        return [0]
    return [1]


def tk_bounded(p, start, rules, bounds):
    """[1] where the list of bounds holds and each of them has one at place p, else [0] or a refusal."""
    if not net_is_taken(start, rules) or p >= len(start) or not list_is_taken(bounds, len(start)):
        return [OUT_OF_RANGE]
    listed = split_list(bounds, len(start))
    for each in listed:
        if each[p] == NO_BOUND:
            return [0]
    return [1] if list_holds(start, rules, listed) else [0]
