"""The calls on one object, handed in and answered as whole numbers."""

from kinghalldesk.counting import OutOfBounds, TooManyRows, count_rows
from kinghalldesk.lines import LineFault, read_line, write_line
from kinghalldesk.movelines import NotAMoveLine, read_move, write_move
from kinghalldesk.moving import NoSuchMove, how_over, move_between, moves_of
from kinghalldesk.rulestext import RulesFault, read_rules

# How many whole numbers, and behind them how many texts, each call is handed in with.
NUMBERS_WITH = (0, 0, 0, 0, 2, 2, 0, 2)
TEXTS_WITH = (1, 0, 1, 1, 1, 1, 2, 1)


class NoRules(ValueError):
    pass


class Desk:
    def __init__(self):
        self.rules = None

    def known_rules(self):
        if self.rules is None:
            raise NoRules()
        return self.rules

    def position_of(self, line):
        return read_line(self.known_rules(), line)


class Intake:
    def __init__(self, calls):
        self.calls = calls
        self.place = 0

    def is_done(self):
        return self.place >= len(self.calls)

    def take_number(self):
        self.place += 1
        return self.calls[self.place - 1]

    def take_row(self):
        many = self.take_number()
        self.place += many
        return self.calls[self.place - many:self.place]


class Call:
    # All of it is taken in before it's answered: a refusal leaves nothing of it behind.
    def __init__(self, intake):
        self.number = intake.take_number()
        self.numbers = [intake.take_number() for told in range(NUMBERS_WITH[self.number])]
        self.texts = [intake.take_row() for told in range(TEXTS_WITH[self.number])]


def with_count(numbers):
    return [len(numbers)] + numbers


def answer_rules(desk, call):
    # A fault leaves here as an error, so the rules that were there stay.
    desk.rules = read_rules(call.texts[0])
    return [0]


def answer_begin(desk):
    rules = desk.known_rules()
    return [0] + with_count(write_line(rules, rules.start))


def answer_over(desk, call):
    position = desk.position_of(call.texts[0])
    return [how_over(desk.rules, position)]


def answer_moves(desk, call):
    position = desk.position_of(call.texts[0])
    moves = moves_of(desk.rules, position)
    told = [0, len(moves)]
    for move in moves:
        told.extend(with_count(move.as_row()))
    return told


def asked_move(desk, call):
    position = desk.position_of(call.texts[0])
    return move_between(desk.rules, position, call.numbers[0], call.numbers[1])


def answer_make(desk, call):
    move = asked_move(desk, call)
    return [move.over] + with_count(write_line(desk.rules, move.after)) + with_count(move.taken)


def answer_write(desk, call):
    return [0] + with_count(write_move(asked_move(desk, call)))


def answer_read(desk, call):
    position = desk.position_of(call.texts[0])
    return [0] + with_count(read_move(desk.rules, position, call.texts[1]).as_row())


def answer_deep(desk, call):
    position = desk.position_of(call.texts[0])
    return [0] + with_count(count_rows(desk.rules, position, call.numbers[0], call.numbers[1]))


def answer_call(desk, call):
    if call.number == 0:
        return answer_rules(desk, call)
    if call.number == 1:
        return answer_begin(desk)
    if call.number == 2:
        return answer_over(desk, call)
    if call.number == 3:
        return answer_moves(desk, call)
    if call.number == 4:
        return answer_make(desk, call)
    if call.number == 5:
        return answer_write(desk, call)
    if call.number == 6:
        return answer_read(desk, call)
    return answer_deep(desk, call)


def answer_or_refuse(desk, call):
    try:
        return answer_call(desk, call)
    except NoRules:
        return [-3]
    except LineFault as fault:
        return [-5, fault.kind, fault.place]
    except RulesFault as fault:
        return [-6, fault.kind, fault.place]
    except NoSuchMove:
        return [-2]
    except NotAMoveLine as fault:
        return [-4, fault.place]
    except OutOfBounds:
        return [-1]
    except TooManyRows:
        return [-9]


def answers(calls):
    desk = Desk()
    intake = Intake(calls)
    told = []
    while not intake.is_done():
        told.extend(with_count(answer_or_refuse(desk, Call(intake))))
    return told
