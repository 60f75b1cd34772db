"""Papers that show why cells have their values (q1 to q4)."""

from windowtable.changes import between
from windowtable.errors import BadPaper
from windowtable.fitting import all_columns, parts
from windowtable.frames import frame_places
from windowtable.functions import BY_PLACE, window_value
from windowtable.ordering import groups, ordered, partition_of


def cell_paper(columns, definitions, rows, row_id, number):
    """The paper of the cell of a row and a definition, rows having all cells."""
    definition = definitions[number]
    numbers, keys, column = parts(definition, all_columns(columns, definitions[:number]))
    members = partition_of(rows, numbers, row_id)
    order = tuple(ordered(members, keys))
    sizes = tuple([len(group) for group in groups(members, keys)])
    frame = frame_ids(definition, members, keys, order, row_id)
    used = values_used(members, column, ids_used(definition, order, frame, row_id))
    return (row_id, number, order, sizes, frame, used, window_value(members, keys, definition, column, row_id))


def frame_ids(definition, members, keys, order, row_id):
    """The ids of the rows of the frame of a row of a partition; none if the function does not look at it."""
    if definition[1] in BY_PLACE:
        return ()
    places = frame_places(members, keys, definition[6])[order.index(row_id)]
    return tuple([order[place] for place in places])


def ids_used(definition, order, frame, row_id):
    """The ids of the rows whose cells the function looks at for a row."""
    if definition[1] not in ("lag", "lead"):
        return frame
    distance = definition[3] if definition[1] == "lead" else -definition[3]
    place = order.index(row_id) + distance
    return (order[place],) if 0 <= place < len(order) else ()


def values_used(members, column, ids):
    """The values in a column of the rows with these ids; none if there is no column."""
    if column is None:
        return ()
    cells_of = {row_id: cells for row_id, cells in members}
    return tuple([cells_of[row_id][column] for row_id in ids])


def check_cell(columns, definitions, rows, paper):
    """Refuses a cell paper that is not right."""
    row_id, number = paper[0], paper[1]
    cells_of = {other: cells for other, cells in rows}
    if row_id not in cells_of or not 0 <= number < len(definitions):
        raise BadPaper(1)
    right = cell_paper(columns, definitions, rows, row_id, number)
    # There is one right paper for a cell, and what stands at a place of it is told by the point of that number.
    for place in range(2, len(right)):
        if paper[place] != right[place]:
            raise BadPaper(place)
    if cells_of[row_id][len(columns) + number] != right[6]:
        raise BadPaper(6)


def change_paper(columns, definitions, rows, others):
    """The list of changes from rows to others, and the papers of the computed cells that it makes."""
    changes = between(rows, others)
    cells = cells_made(changes, len(columns), len(definitions))
    return (changes, tuple([cell_paper(columns, definitions, others, row_id, number) for row_id, number in cells]))


def cells_made(changes, many, computed):
    """The list of the pairs of an id and the number of a definition for each computed cell that changes make.

    There are so many base columns, and so many computed ones.
    """
    made = []
    for change in changes:
        if change[0] == "insert":
            made.extend([(change[1], number) for number in range(computed)])
        elif change[0] == "set" and change[2] >= many:
            made.append((change[1], change[2] - many))
    return made


def check_change(columns, definitions, rows, others, changes, papers):
    """Refuses changes from rows to others that are not the ones, and papers that are not right for them."""
    if changes != between(rows, others):
        raise BadPaper(0)
    cells = cells_made(changes, len(columns), len(definitions))
    if len(papers) != len(cells):
        raise BadPaper(0)
    for place, (cell, paper) in enumerate(zip(cells, papers), start=1):
        if paper[:2] != cell:
            raise BadPaper(10 * place + 1)
        try:
            check_cell(columns, definitions, others, paper)
        except BadPaper as error:
            raise BadPaper(10 * place + error.number) from None
