"""Plans of the fewest asks that settle worlds, and tables that show that fewer don't."""

from onefolk.asks import answer, asks_of


def least_plan(worlds):
    """The least depth of a plan that settles all worlds, and such a plan."""
    return least_for(tuple(range(len(worlds))), answered(worlds), {})


def answered(worlds):
    """The asks, in order, each with the list of what the worlds answer."""
    return [(ask, [answer(world, ask) for world in worlds]) for ask in asks_of(worlds)]


def least_for(numbers, asked, known):
    """The least depth of a plan that settles these worlds, and such a plan; known keeps what is reckoned."""
    if len(numbers) == 1:
        return (0, ("told", numbers[0]))
    if numbers not in known:
        plans = [plan_with(numbers, pair, asked, known) for pair in asked if parts_them(numbers, pair[1])]
        known[numbers] = min(plans, key=lambda plan: plan[0])
    return known[numbers]


def plan_with(numbers, pair, asked, known):
    """The least depth, and such a plan, where an ask that parts these worlds, with its answers, comes first."""
    ask, answers = pair
    yes_depth, yes = least_for(side_of(numbers, answers, True), asked, known)
    no_depth, no = least_for(side_of(numbers, answers, False), asked, known)
    return (1 + max(yes_depth, no_depth), ("ask", ask, yes, no))


def side_of(numbers, answers, side):
    """Those of the numbers whose world answers so."""
    return tuple([number for number in numbers if answers[number] == side])


def parts_them(numbers, answers):
    """Whether some of these worlds answer so and some so."""
    return 0 < len(side_of(numbers, answers, True)) < len(numbers)


def too_few(worlds, many):
    """A table that shows that so many asks don't settle the worlds, or None where they do."""
    asked = answered(worlds)
    known = {}
    all_numbers = tuple(range(len(worlds)))
    if least_for(all_numbers, asked, known)[0] <= many:
        return None
    wanted = [(all_numbers, many)]
    rows = {}
    while wanted:
        numbers, left = wanted.pop(0)
        if (numbers, left) not in rows:
            sides = sides_of(numbers, left, asked, known)
            rows[(numbers, left)] = sides
            wanted.extend([(side_of(numbers, pair[1], side), left - 1) for pair, side in zip(asked, sides)])
    return tuple([(numbers, left, sides) for (numbers, left), sides in rows.items()])


def sides_of(numbers, many, asked, known):
    """For each ask the answer behind which one ask less than so many doesn't settle those of the worlds."""
    if many == 0:
        return ()
    return tuple([is_deep(side_of(numbers, answers, True), many, asked, known) for ask, answers in asked])


def is_deep(numbers, many, asked, known):
    """Whether these worlds, which may be none, need so many asks, one at least."""
    return len(numbers) > 1 and least_for(numbers, asked, known)[0] >= many
