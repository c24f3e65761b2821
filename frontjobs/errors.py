"""The errors of the package. Each keeps what it is made with under its attribute, whatever that is."""


class JobError(ValueError):
    """Any argument that is refused."""


class BadSetup(JobError):
    """What is no SETUP; place tells where."""

    def __init__(self, place):
        self.place = place


class BadStanding(JobError):
    """What is no STANDING of a SETUP; place tells where."""

    def __init__(self, place):
        self.place = place


class BadPlay(JobError):
    """What is no PLAY of a SETUP; place tells where."""

    def __init__(self, place):
        self.place = place


class BadRow(JobError):
    """What is no ROW, or no TABLE, of a SETUP; place tells where."""

    def __init__(self, place):
        self.place = place


class BadPaper(JobError):
    """What is no PAPER of a SETUP and a WRONG; place tells where."""

    def __init__(self, place):
        self.place = place


class BadLog(JobError):
    """What is no LOG of a SETUP; place tells where."""

    def __init__(self, place):
        self.place = place


class BadText(JobError):
    """What is no text of a SETUP or of a PLAY; place tells where."""

    def __init__(self, place):
        self.place = place


class BadEvent(JobError):
    """What is no EVENT that can be done."""

    def __init__(self, event):
        self.event = event


class BadWrong(JobError):
    """What is none of the WRONGS."""

    def __init__(self, wrong):
        self.wrong = wrong


class BadQuestion(JobError):
    """A question that cannot be asked; the text tells why."""

    def __init__(self, text):
        self.text = text


class TooMany(OverflowError):
    """More than the most that a call takes on."""

    def __init__(self, most):
        self.most = most


class MissError(LookupError):
    """Anything that is asked for and is not there."""


class Missing(MissError):
    """A number that is not there."""

    def __init__(self, number):
        self.number = number
