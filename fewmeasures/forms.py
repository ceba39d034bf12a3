"""The one form of a list."""

from fewmeasures.tokens import spelled


def line_of(start, parts):
    """A line: its start, then the parts with a comma between, then its end."""
    line = start + parts[0]
    for part in parts[1:]:
        line = line + spelled(", ") + part
    return line + spelled(" ;\n")


def one_form(held):
    """The bytes of the list's one form."""
    measures = [name + spelled(f" {way}") for name, way in zip(held.measures, held.ways)]
    form = line_of(spelled("measures "), measures)
    for name, row in zip(held.names, held.rows):
        start = spelled("item ") + name + spelled(" : ")
        form.extend(line_of(start, [spelled(str(value)) for value in row]))
    return form
