"""The office: packages go out, and what comes back is taken or stays open for somebody to choose."""

MOST_NAME = 99
MOST_NUMBER = 999
MOST_PIECES = 12
MOST_PACKAGES = 10
MOST_AT_ONCE = 8
NO_TRANSLATION = 0

CALL_PIECE = 0
CALL_TEXT = 1
CALL_GONE = 2
CALL_PUT = 3
CALL_SEND = 4
CALL_BACK = 5

# By the call's number; a row, where a call has one, stands behind these.
WHOLE_NUMBERS = (2, 2, 1, 2, 0, 1)

REFUSED_NUMBERS = -1
REFUSED_NO_SUCH = -2
REFUSED_NOT_IN_IT = -3
REFUSED_THERE_ALREADY = -4
REFUSED_FULL = -5

WAS_OURS_TOO = 0
WAS_THE_BASE = 1
WAS_TAKEN = 2
WAS_CHANGED_AT_BOTH = 3
WAS_OF_OTHER_TEXT = 4
WAS_OF_GONE = 5


class Piece:
    """A piece as it is at home."""

    def __init__(self, text):
        self.text = text
        self.translation = NO_TRANSLATION


class Sent:
    """A piece as a package has it: the text that was sent, and the base."""

    def __init__(self, text, base):
        self.text = text
        self.base = base


class Opened:
    """What is open of a piece by a package: the text that was sent, and theirs."""

    def __init__(self, name, package, text, theirs):
        self.name = name
        self.package = package
        self.text = text
        self.theirs = theirs


class Office:
    """The pieces by name, the packages by number, and what is open, the latest last.

    Each call gives back the numbers of its answer. It looks for every refusal
    before it changes anything, so that all is as it was behind a refusal.
    """

    def __init__(self):
        self.pieces = {}
        self.packages = []
        self.opened = []

    def how_it_stands(self):
        translated = [piece for piece in self.pieces.values() if piece.translation != NO_TRANSLATION]
        return [len(self.pieces), len(translated), len(self.opened)]

    def add_piece(self, name, text):
        if name > MOST_NAME or text > MOST_NUMBER:
            return [REFUSED_NUMBERS]
        if name in self.pieces:
            return [REFUSED_THERE_ALREADY]
        if len(self.pieces) >= MOST_PIECES:
            return [REFUSED_FULL]
        self.pieces[name] = Piece(text)
        return self.how_it_stands()

    def change_text(self, name, text):
        if text > MOST_NUMBER:
            return [REFUSED_NUMBERS]
        if name not in self.pieces:
            return [REFUSED_NO_SUCH]
        piece = self.pieces[name]
        if piece.text != text:
            piece.text = text
            piece.translation = NO_TRANSLATION
        return self.how_it_stands()

    def drop_piece(self, name):
        if name not in self.pieces:
            return [REFUSED_NO_SUCH]
        self.pieces.pop(name)
        return self.how_it_stands()

    def put_translation(self, name, translation):
        if translation > MOST_NUMBER:
            return [REFUSED_NUMBERS]
        if name not in self.pieces:
            return [REFUSED_NO_SUCH]
        piece = self.pieces[name]
        piece.translation = translation
        return self.how_it_stands()

    def send_package(self, names):
        if not fit_together(names):
            return [REFUSED_NUMBERS]
        if not all_among(names, self.pieces):
            return [REFUSED_NO_SUCH]
        if len(self.packages) >= MOST_PACKAGES:
            return [REFUSED_FULL]
        sent = {}
        for name in names:
            piece = self.pieces[name]
            sent[name] = Sent(piece.text, piece.translation)
        self.packages.append(sent)
        return [len(self.packages) - 1]

    def take_back(self, package, pieces):
        names = [pieces[at] for at in range(0, len(pieces), 2)]
        translations = [pieces[at] for at in range(1, len(pieces), 2)]
        if not fit_together(names) or max(translations) > MOST_NUMBER:
            return [REFUSED_NUMBERS]
        if package >= len(self.packages):
            return [REFUSED_NO_SUCH]
        if not all_among(names, self.packages[package]):
            return [REFUSED_NOT_IN_IT]
        outcomes = []
        for at in range(len(names)):
            outcomes.append(self.take_back_one(package, names[at], translations[at]))
        return [outcomes.count(WAS_TAKEN)] + outcomes

    def take_back_one(self, package, name, theirs):
        sent = self.packages[package][name]
        piece = self.pieces.get(name)
        outcome = outcome_of(piece, sent, theirs)
        sent.base = theirs
        if outcome == WAS_THE_BASE:
            return outcome
        # What is open instead of another one is the latest, so the earlier one never keeps its place.
        self.close_opened(package, name)
        if outcome == WAS_TAKEN:
            piece.translation = theirs
        elif outcome != WAS_OURS_TOO:
            self.opened.append(Opened(name, package, sent.text, theirs))
        return outcome

    def close_opened(self, package, name):
        self.opened = [one for one in self.opened if one.package != package or one.name != name]


def fit_together(names):
    """Whether one package may hold these names, or bring them back at once."""
    return 0 < len(names) <= MOST_AT_ONCE and len(set(names)) == len(names)


def all_among(names, known):
    return all([name in known for name in names])


def outcome_of(piece, sent, theirs):
    """What a piece of a package is when it comes back; piece is None when it is gone."""
    if theirs == sent.base:
        return WAS_THE_BASE
    if piece is None:
        return WAS_OF_GONE
    if piece.text != sent.text:
        return WAS_OF_OTHER_TEXT
    if piece.translation == theirs:
        return WAS_OURS_TOO
    if piece.translation == sent.base:
        return WAS_TAKEN
    return WAS_CHANGED_AT_BOTH


def split_calls(calls):
    """The calls one by one: each its number, its whole numbers, and its row (empty where it has none)."""
    told = []
    at = 0
    while at < len(calls):
        call = calls[at]
        behind = at + 1 + WHOLE_NUMBERS[call]
        numbers = calls[at + 1:behind]
        row = []
        if call == CALL_SEND or call == CALL_BACK:
            row_start = behind + 1
            behind = row_start + calls[behind]
            row = calls[row_start:behind]
        told.append((call, numbers, row))
        at = behind
    return told


def answer_call(office, call, numbers, row):
    if call == CALL_PIECE:
        return office.add_piece(numbers[0], numbers[1])
    if call == CALL_TEXT:
        return office.change_text(numbers[0], numbers[1])
    if call == CALL_GONE:
        return office.drop_piece(numbers[0])
    if call == CALL_PUT:
        return office.put_translation(numbers[0], numbers[1])
    if call == CALL_SEND:
        return office.send_package(row)
    return office.take_back(numbers[0], row)


def answers(calls):
    """For each call of the list, in order: how many numbers are answered, then these."""
    office = Office()
    given = []
    for told in split_calls(calls):
        answer = answer_call(office, told[0], told[1], told[2])
        given.append(len(answer))
        given.extend(answer)
    return given
