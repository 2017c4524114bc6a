"""Writes lists of rows as they are answered."""


def counted(rows):
    written = [len(rows)]
    for row in rows:
        written.extend(row)
    return written
