"""Checks the papers of sizes."""

from sevenasone.keeping import Changes, Keeps, keeps_size
from sevenasone.rows import row_in_box
from sevenasone.things import thing_size


def shows_keeping(table, value):
    """Whether the value is a right Keeps, or a Changes of any thing whose size the table changes."""
    paper = keeps_size(table)
    if type(value) is Keeps:
        return type(paper) is Keeps
    row = row_in_box(table.rule, table.one, value.thing, False) if type(value) is Changes else None
    if row is None:
        return False
    return thing_size(table.rule, table.other, table.run(value.thing)) != len(row) - 1
