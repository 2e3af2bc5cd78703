"""The errors of the package: all stand directly under HeadError."""


class HeadError(ValueError):
    """Something that this package refuses."""


class BadBare(HeadError):
    """No bare term as it is wanted."""


class BadBoxes(HeadError):
    """No box machine."""


class BadEnd(HeadError):
    """No end of the kind."""


class BadHead(HeadError):
    """No head."""


class BadJournal(HeadError):
    """No journal of deeds that can be done again."""


class BadKind(HeadError):
    """No kind as it is wanted."""


class BadKinds(HeadError):
    """No list of kinds as it is wanted."""


class BadLetter(HeadError):
    """No letter."""


class BadLine(HeadError):
    """No line."""


class BadMachine(HeadError):
    """No machine."""


class BadMany(HeadError):
    """No number of letters as it is wanted."""


class BadName(HeadError):
    """No name as it is wanted."""


class BadNames(HeadError):
    """No list of names with their kinds."""


class BadNumber(HeadError):
    """No whole within its bounds."""


class BadPath(HeadError):
    """No path as it is wanted."""


class BadPattern(HeadError):
    """No pattern."""


class BadProgram(HeadError):
    """No program."""


class BadShape(HeadError):
    """No shape of a table of the kind."""


class BadSigns(HeadError):
    """No right wording: at is how long its longest beginning is, None where it is no string."""

    def __init__(self, at):
        HeadError.__init__(self, f"no right wording from the sign {at} on")
        self.at = at


class BadSurroundings(HeadError):
    """No surroundings of the kind."""


class BadTable(HeadError):
    """No table of the kind."""


class BadTerm(HeadError):
    """No term as it is wanted."""


class BadText(HeadError):
    """No text as it is wanted."""


class BadWhich(HeadError):
    """Neither the word for the first letter nor that for the last."""


class BadWord(HeadError):
    """None of the words that can be told."""


class BadWords(HeadError):
    """No words for letters as they are wanted."""


class NoProgram(HeadError):
    """A head that is none of a program."""


class OtherLetters(HeadError):
    """Two that do not read the same letters."""


class TooMany(HeadError):
    """More than most, the number that is allowed."""

    def __init__(self, most):
        HeadError.__init__(self, f"more than {most}")
        self.most = most


class Unread(HeadError):
    """The letter is written by one and not read by the other."""

    def __init__(self, letter):
        HeadError.__init__(self, f"the letter {letter} is not read")
        self.letter = letter
