"""Where a list of calls is handed in and their answers are given back."""

from grammarlook.grammar import Grammar

BEGIN = 0
RULE = 1
CLOSE = 2
EMPTY = 3
FIRST = 4
FOLLOW = 5
CHOOSE = 6
CONFLICTS = 7
START = 8
NEXT = 9

# How many whole numbers stand behind each call's own number. A rule has the length of its row among them; the row
# itself is not counted, since it is longer or shorter from call to call.
ARGUMENTS = {0: 2, 1: 2, 2: 0, 3: 1, 4: 1, 5: 1, 6: 2, 7: 0, 8: 0, 9: 1, 10: 0}


def place_behind(calls, place):
    """Gives the place where the call that begins at a place is over."""
    behind = place + 1 + ARGUMENTS[calls[place]]
    if calls[place] == RULE:
        return behind + calls[behind - 1]
    return behind


def answer(grammar, call):
    """Makes one call, which is written as in the list of calls, and gives its answer."""
    if call[0] == BEGIN:
        return grammar.begin(call[1], call[2])
    if call[0] == RULE:
        return grammar.rule(call[1], call[3:])
    if call[0] == CLOSE:
        return grammar.close()
    if call[0] == EMPTY:
        return grammar.empty(call[1])
    if call[0] == FIRST:
        return grammar.first(call[1])
    if call[0] == FOLLOW:
        return grammar.follow(call[1])
    if call[0] == CHOOSE:
        return grammar.choose(call[1], call[2])
    if call[0] == CONFLICTS:
        return grammar.conflicts()
    if call[0] == START:
        return grammar.start()
    if call[0] == NEXT:
        return grammar.take(call[1])
    return grammar.expected()


def answers(calls):
    """Makes the calls on a new object; gives, of each, how many numbers are answered, and these."""
    grammar = Grammar()
    given = []
    place = 0
    while place < len(calls):
        behind = place_behind(calls, place)
        numbers = answer(grammar, calls[place:behind])
        given.append(len(numbers))
        given.extend(numbers)
        place = behind
    return given
