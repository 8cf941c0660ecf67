"""The office: packages go out, and what comes back is taken or stays open for somebody to choose."""

MOST_NAME = 99
MOST_NUMBER = 999
MOST_PIECES = 12
MOST_PACKAGES = 10
MOST_AT_ONCE = 8
NO_TRANSLATION = 0
THEIRS_CHOSEN = 1

CALL_PIECE = 0
CALL_TEXT = 1
CALL_GONE = 2
CALL_PUT = 3
CALL_SEND = 4
CALL_BACK = 5
CALL_OFF = 6
CALL_CHOOSE = 7
CALL_OPEN = 8
CALL_PIECES = 9
CALL_PACKAGE = 10
CALL_OUT = 11

# By the call's number; a row, where a call has one, stands behind these.
WHOLE_NUMBERS = (2, 2, 1, 2, 0, 1, 1, 3, 0, 0, 1, 1)

REFUSED_NUMBERS = -1
REFUSED_NO_SUCH = -2
REFUSED_NOT_IN_IT = -3
REFUSED_THERE_ALREADY = -4
REFUSED_FULL = -5
REFUSED_NO_MORE = -6

OURS_TOO = 0
THE_BASE = 1
TAKEN = 2
NOT_OURS = 3
OF_OTHER_TEXT = 4
OF_GONE = 5


class Piece:
    """A piece as it is at home."""

    def __init__(self, text):
        self.text = text
        self.translation = NO_TRANSLATION


class Sent:
    """A piece as a package has it: the text that was sent, and the base."""

    def __init__(self, text, base):
        self.text = text
        self.base = base


class Package:
    """What was sent, by name, in the order in which the names were told."""

    def __init__(self, sent):
        self.sent = sent
        self.given_up = False


class Opened:
    """What is open of a piece by a package: the text that was sent, and theirs."""

    def __init__(self, name, package, text, theirs):
        self.name = name
        self.package = package
        self.text = text
        self.theirs = theirs


class Office:
    """The pieces by name, the packages by number, and what is open, the latest last.

    Each call gives back the numbers of its answer. It looks for every refusal
    before it changes anything, so that all is as it was behind a refusal.
    """

    def __init__(self):
        self.pieces = {}
        self.packages = []
        self.opened = []

    def how_it_stands(self):
        translated = [piece for piece in self.pieces.values() if piece.translation != NO_TRANSLATION]
        return [len(self.pieces), len(translated), len(self.opened)]

    def add_piece(self, name, text):
        if name > MOST_NAME or text > MOST_NUMBER:
            return [REFUSED_NUMBERS]
        if name in self.pieces:
            return [REFUSED_THERE_ALREADY]
        if len(self.pieces) >= MOST_PIECES:
            return [REFUSED_FULL]
        self.pieces[name] = Piece(text)
        return self.how_it_stands()

    def change_text(self, name, text):
        if text > MOST_NUMBER:
            return [REFUSED_NUMBERS]
        if name not in self.pieces:
            return [REFUSED_NO_SUCH]
        piece = self.pieces[name]
        if piece.text != text:
            piece.text = text
            piece.translation = NO_TRANSLATION
        return self.how_it_stands()

    def drop_piece(self, name):
        if name not in self.pieces:
            return [REFUSED_NO_SUCH]
        self.pieces.pop(name)
        return self.how_it_stands()

    def put_translation(self, name, translation):
        if translation > MOST_NUMBER:
            return [REFUSED_NUMBERS]
        if name not in self.pieces:
            return [REFUSED_NO_SUCH]
        piece = self.pieces[name]
        piece.translation = translation
        return self.how_it_stands()

    def send_package(self, names):
        if not fit_together(names):
            return [REFUSED_NUMBERS]
        if not all_among(names, self.pieces):
            return [REFUSED_NO_SUCH]
        if len(self.packages) >= MOST_PACKAGES:
            return [REFUSED_FULL]
        sent = {}
        for name in names:
            piece = self.pieces[name]
            sent[name] = Sent(piece.text, piece.translation)
        self.packages.append(Package(sent))
        return [len(self.packages) - 1]

    def take_back(self, package, pieces):
        names = [pieces[at] for at in range(0, len(pieces), 2)]
        translations = [pieces[at] for at in range(1, len(pieces), 2)]
        if not fit_together(names) or max(translations) > MOST_NUMBER:
            return [REFUSED_NUMBERS]
        if package >= len(self.packages):
            return [REFUSED_NO_SUCH]
        asked = self.packages[package]
        if asked.given_up:
            return [REFUSED_NO_MORE]
        if not all_among(names, asked.sent):
            return [REFUSED_NOT_IN_IT]
        outcomes = []
        for at in range(len(names)):
            outcomes.append(self.take_back_one(package, names[at], translations[at]))
        return [outcomes.count(TAKEN)] + outcomes

    def take_back_one(self, package, name, theirs):
        sent = self.packages[package].sent[name]
        piece = self.pieces.get(name)
        outcome = outcome_of(piece, sent, theirs)
        sent.base = theirs
        if outcome == THE_BASE:
            return outcome
        # What is open instead of another one is the latest, so the earlier one never keeps its place.
        self.close_opened(package, name)
        if outcome == TAKEN:
            piece.translation = theirs
        elif outcome != OURS_TOO:
            self.opened.append(Opened(name, package, sent.text, theirs))
        return outcome

    def close_opened(self, package, name):
        self.opened = [one for one in self.opened if one.package != package or one.name != name]

    def find_opened(self, package, name):
        """What is open of that piece by that package, or None."""
        for one in self.opened:
            if one.package == package and one.name == name:
                return one
        return None

    def give_up(self, package):
        if package >= len(self.packages):
            return [REFUSED_NO_SUCH]
        asked = self.packages[package]
        if asked.given_up:
            return [REFUSED_NO_MORE]
        # It keeps its place among the packages, so that its number is not given again.
        asked.given_up = True
        return [len([one for one in self.packages if not one.given_up])]

    def choose(self, name, package, choice):
        chosen = self.find_opened(package, name)
        if chosen is None:
            return [REFUSED_NO_SUCH]
        if choice == THEIRS_CHOSEN and name not in self.pieces:
            return [REFUSED_NO_MORE]
        self.close_opened(package, name)
        if choice == THEIRS_CHOSEN:
            piece = self.pieces[name]
            piece.translation = chosen.theirs
        return self.how_it_stands()

    def tell_opened(self):
        told = [len(self.opened)]
        for one in self.opened:
            now = beside_ours(self.pieces.get(one.name), one.text, one.theirs)
            told.extend([one.name, one.package, one.text, one.theirs, now])
        return told

    def tell_pieces(self):
        told = [len(self.pieces)]
        for name, piece in self.pieces.items():
            told.extend([name, piece.text, piece.translation])
        return told

    def tell_package(self, package):
        if package >= len(self.packages):
            return [REFUSED_NO_SUCH]
        asked = self.packages[package]
        told = [1 if asked.given_up else 0, len(asked.sent)]
        for name, sent in asked.sent.items():
            told.extend([name, sent.text, sent.base])
        return told

    def tell_out(self, name):
        # A piece that is gone is still out, so only the packages are asked.
        numbers = [at for at, one in enumerate(self.packages) if name in one.sent and not one.given_up]
        return [len(numbers)] + numbers


def fit_together(names):
    """Whether one package may hold these names, or bring them back at once."""
    return 0 < len(names) <= MOST_AT_ONCE and len(set(names)) == len(names)


def all_among(names, known):
    return all([name in known for name in names])


def beside_ours(piece, text, theirs):
    """How theirs, of the text that was sent, stands beside the piece at home; piece is None when it is gone."""
    if piece is None:
        return OF_GONE
    if piece.text != text:
        return OF_OTHER_TEXT
    if piece.translation == theirs:
        return OURS_TOO
    return NOT_OURS


def outcome_of(piece, sent, theirs):
    """What a piece of a package is when it comes back; piece is None when it is gone."""
    if theirs == sent.base:
        return THE_BASE
    outcome = beside_ours(piece, sent.text, theirs)
    if outcome == NOT_OURS and piece.translation == sent.base:
        return TAKEN
    return outcome


def split_calls(calls):
    """The calls one by one: each its number, its whole numbers, and its row (empty where it has none)."""
    told = []
    at = 0
    while at < len(calls):
        call = calls[at]
        behind = at + 1 + WHOLE_NUMBERS[call]
        numbers = calls[at + 1:behind]
        row = []
        if call == CALL_SEND or call == CALL_BACK:
            row_start = behind + 1
            behind = row_start + calls[behind]
            row = calls[row_start:behind]
        told.append((call, numbers, row))
        at = behind
    return told


def answer_call(office, call, numbers, row):
    if call == CALL_PIECE:
        return office.add_piece(numbers[0], numbers[1])
    if call == CALL_TEXT:
        return office.change_text(numbers[0], numbers[1])
    if call == CALL_GONE:
        return office.drop_piece(numbers[0])
    if call == CALL_PUT:
        return office.put_translation(numbers[0], numbers[1])
    if call == CALL_SEND:
        return office.send_package(row)
    if call == CALL_BACK:
        return office.take_back(numbers[0], row)
    if call == CALL_OFF:
        return office.give_up(numbers[0])
    if call == CALL_CHOOSE:
        return office.choose(numbers[0], numbers[1], numbers[2])
    if call == CALL_OPEN:
        return office.tell_opened()
    if call == CALL_PIECES:
        return office.tell_pieces()
    if call == CALL_PACKAGE:
        return office.tell_package(numbers[0])
    return office.tell_out(numbers[0])


def answers(calls):
    """For each call of the list, in order: how many numbers are answered, then these."""
    office = Office()
    given = []
    for told in split_calls(calls):
        answer = answer_call(office, told[0], told[1], told[2])
        given.append(len(answer))
        given.extend(answer)
    return given
