"""The work of programs."""


def work_of_body(body, works):
    """Returns the work of a body; works has the work of each function that it can call."""
    return sum([work_of_statement(statement, works) for statement in body])


def work_of_statement(statement, works):
    """Returns the work of a statement."""
    head = statement[0]
    if head == "loop":
        _, _, first, last, body = statement
        return 1 + (last - first + 1) * work_of_body(body, works)
    if head == "if":
        _, _, body, other = statement
        return 1 + max(work_of_body(body, works), work_of_body(other, works))
    if head == "call":
        return 1 + works[statement[2]]
    return 1
