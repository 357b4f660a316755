"""What each call refuses, in the order that holds, and what it answers."""

from jurypick.words import PICKING_ALTERNATES, SWORN, OVER, SIDES, NOBODY

# Of each of begin's numbers, in their order, the smallest and the greatest.
BEGIN_BOUNDS = ((1, 60), (1, 12), (0, 4), (0, 10), (0, 10), (0, 3), (0, 1))
LONGEST_ROW = 10
MOST_JURORS = 12
DIVIDED = 2


def are_within_bounds(numbers):
    for place, number in enumerate(numbers):
        bounds = BEGIN_BOUNDS[place]
        if number < bounds[0] or number > bounds[1]:
            return False
    return True


def are_zeros_and_ones(numbers):
    return all([number in (0, 1) for number in numbers])


def is_row_of_turns(row):
    return are_zeros_and_ones(row) and 0 in row and 1 in row and len(row) <= LONGEST_ROW


def begin(picking, numbers, row):
    if not are_within_bounds(numbers) or not is_row_of_turns(row):
        return [-1]
    picking.set_rules(numbers[2], numbers[5], numbers[6])
    picking.begin(numbers[0], numbers[1], [numbers[3], numbers[4]], row)
    return [0] + picking.standing()


def excuse(picking, who):
    if not picking.has(who):
        return [-1]
    if picking.phase > PICKING_ALTERNATES:
        return [-3]
    if who not in picking.box:
        return [-4]
    seat = picking.excuse(who)
    return [seat] + picking.standing()


def strike(picking, side, who):
    if side not in SIDES or not picking.has(who):
        return [-1]
    if picking.phase > PICKING_ALTERNATES:
        return [-3]
    if not picking.has_turn(side):
        return [-5]
    if who not in picking.box:
        return [-4]
    seat = picking.strike(side, who)
    return [seat] + picking.standing()


def pass_turn(picking, side):
    if side not in SIDES:
        return [-1]
    if picking.phase > PICKING_ALTERNATES:
        return [-3]
    if not picking.has_turn(side):
        return [-5]
    picking.pass_turn(side)
    return [0] + picking.standing()


def objection(picking, side, upheld):
    if side not in SIDES or upheld not in (0, 1):
        return [-1]
    if picking.phase > PICKING_ALTERNATES:
        return [-3]
    if not picking.may_object():
        return [-4]
    if picking.striker() == side:
        return [-5]
    picking.answer_objection(upheld)
    return [upheld] + picking.standing()


def let(picking, who):
    if not picking.has(who):
        return [-1]
    if picking.phase != SWORN:
        return [-3]
    if who in picking.alternates:
        picking.let_alternate(who)
        return [0] + picking.standing()
    if who not in picking.jury:
        return [-4]
    if len(picking.alternates) > 0:
        picking.replace_juror(who)
        return [1] + picking.standing()
    picking.lose_juror(who)
    return [2] + picking.standing()


def agree(picking, least):
    if least < 1 or least > MOST_JURORS:
        return [-1]
    if picking.phase != SWORN:
        return [-3]
    if least > picking.least:
        return [-5]
    picking.agree(least)
    return [least]


def verdict(picking, says):
    if not are_zeros_and_ones(says):
        return [-1]
    if picking.phase != SWORN:
        return [-3]
    if len(says) != len(picking.jury):
        return [-4]
    if 0 in says and 1 in says:
        return [DIVIDED] + picking.standing()
    picking.end()
    return [says[0]] + picking.standing()


def now(picking):
    waiting = picking.waiting()
    first = waiting[0] if len(waiting) > 0 else NOBODY
    return [picking.phase] + picking.standing() + [first, len(waiting), picking.least, picking.struck]


def box(picking):
    if picking.phase in (SWORN, OVER):
        return [len(picking.jury)] + picking.jury + picking.alternates
    return [len(picking.box)] + picking.box + picking.jury


def fates(picking):
    return [len(picking.fates)] + picking.fates
