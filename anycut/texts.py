"""The texts of services and rules."""


def shown_step(step):
    """Return the text of a tuple (next state, answer)."""
    onward, answer = step
    return f"{onward}/-" if answer is None else f"{onward}/{answer}"


def show_service(service):
    """Return the text of a service: its calls, then for each state the next states and the answers."""
    rows = [" ".join([shown_step(step) for step in row]) for row in service.table]
    return "; ".join([" ".join(service.calls)] + rows)


def show_rule(rule):
    """Return the text of a rule: its parts that are not empty, `plain` if all are."""
    parts = [
        ["early"] + rule.early,
        ["keyed"] + [f"{name}={key}" for name, key in rule.keyed],
        ["ranks"] + [f"{name}={rank}" for name, rank in rule.ranks],
    ]
    told = "; ".join([" ".join(words) for words in parts if len(words) > 1])
    return told if told else "plain"
