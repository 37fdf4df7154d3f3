"""What the tests share: plans and lists of calls made by a source of numbers with a set beginning."""

from tests.asking import GREATEST, all_pairs, bar, beds, begin, fill, move, pin, room, state, swap, weigh, who, wish


def some(source, things, most):
    return source.sample(things, source.randint(0, min(most, len(things))))


def plan_calls(source, pupils, rooms, most_beds=8):
    """A plan with wishes, bars and pins, in any order behind the rooms."""
    told = [wish(a, b) for a, b in some(source, all_pairs(pupils), 32)]
    lesser_first = [(a, b) for a, b in all_pairs(pupils) if a < b]
    barred = some(source, lesser_first, source.choice((0, 1, 2, pupils)))
    told += [bar(a, b) if source.random() < 0.5 else bar(b, a) for a, b in barred]
    pinned = some(source, range(pupils), source.choice((0, 1, 2, pupils)))
    told += [pin(a, source.randint(0, rooms)) for a in pinned]
    source.shuffle(told)
    return [begin(pupils)] + [room(source.randint(0, most_beds)) for number in range(rooms)] + told


def number_near(source, most):
    """Mostly a number that is right, now and then one above, now and then one far above."""
    if source.random() < 0.04:
        return source.choice((most + 1, most + 2, 256, GREATEST - 1, GREATEST))
    return source.randint(0, most)


def any_call(source, pupils, often):
    """One call of any kind, told how often each kind comes up."""
    last = pupils - 1
    a, b = number_near(source, last), number_near(source, last)
    number = number_near(source, 3)
    on = number_near(source, 1)
    makers = {
        "begin": lambda: begin(source.choice((pupils, pupils, pupils, 0, 9, GREATEST))),
        "room": lambda: room(number_near(source, 8)),
        "beds": lambda: beds(number, number_near(source, 8)),
        "wish": lambda: wish(a, b, on),
        "bar": lambda: bar(a, b, on),
        "pin": lambda: pin(a, source.choice((0, 0, number_near(source, 4)))),
        "fill": fill,
        "move": lambda: move(a, number),
        "swap": lambda: swap(a, b),
        "who": lambda: who(number),
        "weigh": weigh,
        "state": state,
    }
    name = source.choices(list(often), list(often.values()))[0]
    return makers[name]()
