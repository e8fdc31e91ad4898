"""A line of calls about one table, told in one list, and its answers."""

from cardpairs.board import Board

TABLE = 0
COMES = 1
SHOWS = 2
ALONE = 3
MEEK = 4
BEST = 5
LEAD = 6
OVER = 7
CHANCES = 8

# How many whole numbers stand behind each call's own number, call by call.
SIZES = (3, 1, 0, 0, 0, 0, 0, 1, 0, 0)


def answer(board, call, told):
    if call == TABLE:
        return board.table(told[0], told[1], told[2])
    if call == COMES:
        return board.comes(told[0])
    if call == SHOWS:
        return board.shows()
    if call == ALONE:
        return board.alone()
    if call == MEEK:
        return board.meek()
    if call == BEST:
        return board.best()
    if call == LEAD:
        return board.lead()
    if call == OVER:
        return board.over(told[0])
    if call == CHANCES:
        return board.chances()
    return board.fewest()


def answers(calls):
    board = Board()
    given = []
    place = 0
    while place < len(calls):
        call = calls[place]
        behind = place + 1 + SIZES[call]
        numbers = answer(board, call, calls[place + 1:behind])
        given.append(len(numbers))
        given.extend(numbers)
        place = behind
    return given
