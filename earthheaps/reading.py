"""How the calls stand in the one list that is handed in."""

# By a call's number: how many whole numbers it has, ahead of its row if it has one.
WHOLE_NUMBERS = (1, 3, 1, 1, 2, 2, 2, 2, 3, 2, 3, 2, 3, 0)
CALLS_WITH_ROW = (2, 8, 9, 11)


def split_calls(calls):
    separate = []
    place = 0
    while place < len(calls):
        number = calls[place]
        behind = place + 1 + WHOLE_NUMBERS[number]
        arguments = calls[place + 1:behind]
        if number in CALLS_WITH_ROW:
            row_end = behind + 1 + calls[behind]
            arguments.append(calls[behind + 1:row_end])
            behind = row_end
        separate.append((number, arguments))
        place = behind
    return separate
