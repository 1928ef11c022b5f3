"""The desk: a list of calls on a new capture, and what is answered to them."""

from framekeep.capture import Capture


def answer_open(capture, numbers, row):
    return capture.begin(numbers[0], numbers[1])


def answer_add(capture, numbers, row):
    return capture.add_frame(numbers[0], numbers[1], row)


def answer_counts(capture, numbers, row):
    return capture.tell_counts()


def answer_get(capture, numbers, row):
    return capture.tell_frame(numbers[0])


def answer_compile(capture, numbers, row):
    return capture.compile_text(numbers[0], row)


def answer_program(capture, numbers, row):
    return capture.tell_program(numbers[0])


def answer_load(capture, numbers, row):
    return capture.load_program(numbers[0], row)


def answer_clear(capture, numbers, row):
    return capture.clear_slot(numbers[0])


def answer_gate(capture, numbers, row):
    return capture.set_gate(numbers[0])


def answer_fits(capture, numbers, row):
    return capture.try_frame(numbers[0], row)


def answer_find(capture, numbers, row):
    return capture.find_frames(numbers[0], numbers[1], numbers[2])


def answer_total(capture, numbers, row):
    return capture.tell_total(numbers[0])


def answer_dump(capture, numbers, row):
    return capture.tell_dump(numbers[0])


def answer_save(capture, numbers, row):
    return capture.tell_file()


def answer_restore(capture, numbers, row):
    return capture.restore_file(row)


# By a call's number: how many whole numbers it has, how many rows (none or one), what answers it.
CALLS = {
    1: (2, 0, answer_open),
    2: (2, 1, answer_add),
    3: (0, 0, answer_counts),
    4: (1, 0, answer_get),
    5: (1, 1, answer_compile),
    6: (1, 0, answer_program),
    7: (1, 1, answer_load),
    8: (1, 0, answer_clear),
    9: (1, 0, answer_gate),
    10: (1, 1, answer_fits),
    11: (3, 0, answer_find),
    12: (1, 0, answer_total),
    13: (1, 0, answer_dump),
    14: (0, 0, answer_save),
    15: (0, 1, answer_restore),
}


def answers(calls):
    """For each call how many numbers are answered, then these."""
    capture = Capture()
    told = []
    place = 0
    while place < len(calls):
        call = CALLS[calls[place]]
        place += 1
        numbers = calls[place:place + call[0]]
        place += call[0]
        row = []
        if call[1] == 1:
            start = place + 1
            place = start + calls[place]
            row = calls[start:place]
        answer = call[2](capture, numbers, row)
        told.append(len(answer))
        told.extend(answer)
    return told
