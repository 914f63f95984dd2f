"""What is reached step by step where each number has a row of those that one step leads to."""


def reached_from(start, shut, steps):
    """The numbers that are reached from the start, itself among them, not through the shut one: a dict of True."""
    reached = {start: True}
    waiting = [start]
    while waiting:
        here = waiting.pop()
        for there in steps[here]:
            if there != shut and there not in reached:
                reached[there] = True
                waiting.append(there)
    return reached
