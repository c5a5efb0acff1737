"""The loads of a way: from the left on, what is there or borrowed to what is needed or spoiled."""

from haul.ways import pit_amounts


def loads_of(road, way):
    """A tuple for each load: from where, to where, how much."""
    amounts = pit_amounts(road, way)
    left = [had + max(amount, 0) for had, amount in zip(road.had, amounts)]
    lacking = [needed + max(-amount, 0) for needed, amount in zip(road.needed, amounts)]
    loads = []
    start = 0
    end = 0
    while start < road.stations and end < road.stations:
        much = min(left[start], lacking[end])
        if much > 0 and start != end:
            loads.append((start, end, much))
        left[start] -= much
        lacking[end] -= much
        if left[start] == 0:
            start += 1
        else:
            end += 1
    return loads
