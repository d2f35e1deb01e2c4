"""All errors of the program. What an error is about stands in its attributes [0.5]."""


class WheelError(ValueError):
    """Any error of the program."""


class BadNumber(WheelError):
    def __init__(self, number):
        self.number = number


class BadOffset(WheelError):
    def __init__(self, offset):
        self.offset = offset


class BadTown(WheelError):
    def __init__(self, what):
        self.what = what


class NoBox(WheelError):
    def __init__(self, number):
        self.number = number


class NoLoop(WheelError):
    def __init__(self, loop):
        self.loop = loop


class BadRow(WheelError):
    def __init__(self, row, what):
        self.row = row
        self.what = what


class BadCase(WheelError):
    def __init__(self, case):
        self.case = case


class NoLay(WheelError):
    def __init__(self, wanted):
        self.wanted = wanted


class NoStretch(WheelError):
    def __init__(self, loop, stretch):
        self.loop = loop
        self.stretch = stretch


class NotNow(WheelError):
    def __init__(self, word):
        self.word = word


class NoDeed(WheelError):
    def __init__(self, deed):
        self.deed = deed


class BadTimed(WheelError):
    def __init__(self, index):
        self.index = index


class BadTape(WheelError):
    def __init__(self, at):
        self.at = at


class BadColumns(WheelError):
    def __init__(self, index):
        self.index = index


class BadQuestion(WheelError):
    def __init__(self, what):
        self.what = what


class TooManyCases(WheelError):
    def __init__(self, number):
        self.number = number


class TooManyLays(WheelError):
    def __init__(self, count):
        self.count = count


class BadHiding(WheelError):
    def __init__(self, what):
        self.what = what


class BadRing(WheelError):
    def __init__(self, text):
        self.text = text


class BadFault(WheelError):
    def __init__(self, fault):
        self.fault = fault


class NoFault(WheelError):
    def __init__(self, fault):
        self.fault = fault


class BadHouse(WheelError):
    def __init__(self, what):
        self.what = what


class BadLevels(WheelError):
    def __init__(self, what, at):
        self.what = what
        self.at = at


class BadCard(WheelError):
    def __init__(self, what):
        self.what = what


class BadCardText(WheelError):
    def __init__(self, text):
        self.text = text


class BadStations(WheelError):
    def __init__(self, stations):
        self.stations = stations


class NoCrew(WheelError):
    def __init__(self, number, crew):
        self.number = number
        self.crew = crew


class NoStation(WheelError):
    def __init__(self, number, station):
        self.number = number
        self.station = station


class CardTwice(WheelError):
    def __init__(self, number):
        self.number = number


class NoCard(WheelError):
    def __init__(self, number):
        self.number = number


class NoCall(WheelError):
    def __init__(self, number):
        self.number = number


class TopGrade(WheelError):
    def __init__(self, number):
        self.number = number


class NoPlace(WheelError):
    def __init__(self, crew):
        self.crew = crew


class TooManyStandings(WheelError):
    def __init__(self, count):
        self.count = count


class BadService(WheelError):
    def __init__(self, what):
        self.what = what


class NotAllowed(WheelError):
    def __init__(self, word):
        self.word = word


class NoHouse(WheelError):
    def __init__(self, box):
        self.box = box


class BadHappening(WheelError):
    def __init__(self, happening):
        self.happening = happening


class BadStatement(WheelError):
    def __init__(self, statement):
        self.statement = statement


class BadChange(WheelError):
    def __init__(self, index):
        self.index = index


class CannotBe(WheelError):
    def __init__(self, why):
        self.why = why


class TooManyChanges(WheelError):
    def __init__(self, count):
        self.count = count


class NoSet(WheelError):
    def __init__(self, thing):
        self.thing = thing


class BadSigns(WheelError):
    def __init__(self, what):
        self.what = what


class BadTapes(WheelError):
    def __init__(self, index):
        self.index = index


class BadDeskDeed(WheelError):
    def __init__(self, index):
        self.index = index


class BadPage(WheelError):
    def __init__(self, line):
        self.line = line
