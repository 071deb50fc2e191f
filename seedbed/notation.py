"""The written form of programs (point 13)."""

INDENT = "  "


def format_program(program):
    """Return the written form of a valid program."""
    lines = []
    for name, params, result, body in program:
        head = ("func", name, result, params)
        lines.extend(block_lines([(head, body)], 0))
    return "".join([line + "\n" for line in lines])


def block_lines(blocks, level):
    """Return the lines of blocks (head, body) that belong together, and of their end."""
    lines = []
    for head, body in blocks:
        lines.append(line_of(head, level))
        for statement in body:
            lines.extend(statement_lines(statement, level + 1))
    lines.append(line_of("end", level))
    return lines


def statement_lines(statement, level):
    """Return the lines of a statement."""
    blocks = blocks_of(statement)
    if blocks:
        return block_lines(blocks, level)
    return [line_of(statement, level)]


def blocks_of(statement):
    """Return the blocks (head, body) of a statement; a statement without bodies has none."""
    match statement:
        case ("if", condition, body, other):
            return [(("if", condition), body), ("else", other)]
        case ("while", condition, body):
            return [(("while", condition), body)]
        case ("try", body, name, other):
            return [("try", body), (("catch", name), other)]
        case ("finally", body, other):
            return [("try", body), ("finally", other)]
        case ("scope", time, watched, body):
            return [(("watch" if watched else "scope", time), body)]
        case ("shield", body):
            return [("shield", body)]
        case ("using", number, body):
            return [(("using", number), body)]
        case ("select", arms, default):
            return select_blocks(arms, default)
    return []


def select_blocks(arms, default):
    """Return the blocks of a select: its first line, which has no body, the arms and the default."""
    blocks = [("select", [])]
    for arm in arms:
        blocks.append((arm[:-1], arm[-1]))
    if default is not None:
        blocks.append(("default", default))
    return blocks


def line_of(part, level):
    """Return the line that consists of the words of a part."""
    return INDENT * level + " ".join(words_of(part))


def words_of(part):
    """Return the words of a part of a program: a word, a number, None, or several parts in their order.

    Expressions are tuples that begin with their sign, so their words in order are the prefix form.
    """
    if part is None:
        return ["none"]
    if part is True:
        return ["true"]
    if part is False:
        return ["false"]
    if not isinstance(part, (list, tuple)):
        return [str(part)]
    words = []
    for inner in part:
        words.extend(words_of(inner))
    return words
