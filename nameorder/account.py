"""All that is kept, as one list of numbers."""


def account_of_code(code):
    return [code.limit, code.works, code.authors, code.window, code.span]


def account_of_works(works):
    numbers = [len(works)]
    for key in sorted(works):
        work = works[key]
        numbers.extend([work.key, work.day, work.author])
    return numbers


def account_of_names(names):
    numbers = [len(names)]
    for key in sorted(names):
        name = names[key]
        numbers.extend([name.key, name.work, name.page])
    return numbers


def account_of_uses(uses):
    numbers = [len(uses)]
    for work, name in sorted(uses):
        numbers.extend([work, name])
    return numbers


def account_of_acts(acts):
    numbers = [len(acts)]
    for key in sorted(acts):
        act = acts[key]
        numbers.extend([act.key, act.kind, act.work, act.a, act.b])
    return numbers


def account(kept):
    works_and_names = account_of_works(kept.works) + account_of_names(kept.names)
    return account_of_code(kept.code) + works_and_names + account_of_uses(kept.uses) + account_of_acts(kept.acts)
