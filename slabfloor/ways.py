"""Ways: what a laying reaches over its floor, and layings with a way turned."""


def reached(laying, shade):
    """Each cell that is reached from a shade, and the cell from which it is reached."""
    floor = laying.floor
    found = {bare: None for bare in laying.bare() if floor.shade(bare) == shade}
    ahead = list(found)
    while ahead:
        cell = ahead.pop()
        for other in floor.beside(cell):
            if other not in found:
                found[other] = cell
                if other in laying.over:
                    # A covered cell of the shade is reached over its slab alone:
                    # it can't have been found ahead of the slab's other cell.
                    found[laying.over[other]] = other
                    ahead.append(laying.over[other])
    return found


def way_to(found, cell):
    """The way from a bare cell to a cell among those that were reached."""
    way = [cell]
    while found[way[-1]] is not None:
        way.append(found[way[-1]])
    return way[::-1]


def turned(laying, way):
    """Another laying, with the slabs along a way laid the other way about."""
    other = laying.copied()
    for cell in way:
        if cell in other.over:
            other.lift(cell)
    for at in range(0, len(way) - 1, 2):
        other.put(way[at], way[at + 1])
    return other
