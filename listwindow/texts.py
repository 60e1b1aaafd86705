"""Texts: tables, sortings, scripts and lines as they are shown."""


def show_table(table):
    rows = [",".join([str(cell) for cell in cells]) for cells in table.rows]
    return " ".join([f"{table.width}:"] + rows)


def show_sorting(sorting):
    return " ".join([f"+{column}" if sign == 1 else f"-{column}" for column, sign in sorting]) or "."


def show_script(script):
    return "; ".join([_shown_deed(deed) for deed in script]) or "."


def _shown_deed(deed):
    return " ".join(["*" if part is None else str(part) for part in deed])


def show_lines(lines):
    return " ".join([f"{line[1]} ({line[2]})" if line[0] == "head" else f"#{line[1]}" for line in lines]) or "."
