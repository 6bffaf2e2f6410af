"""The calls on one text, taken from a list of numbers, and their answers."""

from snippets.desk import Desk

# Of each call, by its number: how many whole numbers it has, and whether a row comes behind them.
FORMS = {
    0: (0, True), 1: (1, True), 2: (3, False), 3: (2, True), 4: (0, False), 5: (0, False),
    6: (1, False), 7: (0, False), 8: (0, False), 9: (0, False), 10: (0, False), 11: (0, False),
}


def answers(calls):
    return answers_on(Desk(), calls)


def answers_on(desk, calls):
    given = []
    here = 0
    while here < len(calls):
        call = calls[here]
        row_at = here + 1 + FORMS[call][0]
        numbers = calls[here + 1:row_at]
        row = []
        here = row_at
        if FORMS[call][1]:
            here = row_at + 1 + calls[row_at]
            row = calls[row_at + 1:here]
        answer = answer_call(desk, call, numbers, row)
        given.append(len(answer))
        given.extend(answer)
    return given


def answer_call(desk, call, numbers, row):
    if call == 0:
        return desk.set_text(row)
    if call == 1:
        return desk.set_template(numbers[0], row)
    if call == 2:
        return desk.expand(numbers[0], numbers[1], numbers[2])
    if call == 3:
        return desk.exchange(numbers[0], numbers[1], row)
    if call == 4:
        return desk.go_on()
    if call == 5:
        return desk.go_back()
    if call == 6:
        return desk.choose(numbers[0])
    if call == 7:
        return desk.leave()
    if call == 8:
        return desk.tell_text()
    if call == 9:
        return desk.tell_spans()
    if call == 10:
        return desk.tell_order()
    return desk.undo()
