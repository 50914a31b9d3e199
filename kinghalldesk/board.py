"""The calls on one object, handed in and answered as whole numbers."""

from kinghalldesk.lines import LineFault, read_line, write_line
from kinghalldesk.moving import how_over, moves_of
from kinghalldesk.rulestext import RulesFault, read_rules


class NoRules(ValueError):
    pass


class UnknownCall(ValueError):
    pass


class Desk:
    def __init__(self):
        self.rules = None

    def known_rules(self):
        if self.rules is None:
            raise NoRules()
        return self.rules


class Intake:
    def __init__(self, calls):
        self.calls = calls
        self.place = 0

    def is_done(self):
        return self.place >= len(self.calls)

    def take_number(self):
        self.place += 1
        return self.calls[self.place - 1]

    def take_row(self):
        many = self.take_number()
        self.place += many
        return self.calls[self.place - many:self.place]


def with_count(numbers):
    return [len(numbers)] + numbers


def answer_rules(desk, text):
    # A fault leaves here as an error, so the rules that were there stay.
    desk.rules = read_rules(text)
    return [0]


def answer_begin(desk):
    rules = desk.known_rules()
    return [0] + with_count(write_line(rules, rules.start))


def answer_over(desk, line):
    rules = desk.known_rules()
    return [how_over(rules, read_line(rules, line))]


def answer_moves(desk, line):
    rules = desk.known_rules()
    moves = moves_of(rules, read_line(rules, line))
    told = [0, len(moves)]
    for move in moves:
        told.extend(with_count(move.as_row()))
    return told


def answer_call(desk, intake):
    call = intake.take_number()
    if call == 0:
        return answer_rules(desk, intake.take_row())
    if call == 1:
        return answer_begin(desk)
    if call == 2:
        return answer_over(desk, intake.take_row())
    if call == 3:
        return answer_moves(desk, intake.take_row())
    raise UnknownCall()


def answer_or_refuse(desk, intake):
    try:
        return answer_call(desk, intake)
    except NoRules:
        return [-3]
    except LineFault as fault:
        return [-5, fault.kind, fault.place]
    except RulesFault as fault:
        return [-6, fault.kind, fault.place]


def answers(calls):
    desk = Desk()
    intake = Intake(calls)
    told = []
    while not intake.is_done():
        told.extend(with_count(answer_or_refuse(desk, intake)))
    return told
