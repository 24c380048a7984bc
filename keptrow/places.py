"""Where in the row a dealing is put that is to be kept."""


def place_in(row, ahead, behind):
    """Tell the place right ahead of all of behind, or None if one of ahead is not ahead of it."""
    at = {number: place for place, number in enumerate(row)}
    place = min([at[number] for number in behind], default=len(row))
    if any(at[number] >= place for number in ahead):
        return None
    return place
