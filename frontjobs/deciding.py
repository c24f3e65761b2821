"""Whether a WRONG can come, with any number of jobs; and the PAPERs that show it."""

from frontjobs.errors import BadPaper
from frontjobs.events import KIND_WORDS, behind_event, can_do
from frontjobs.inquiring import Inquiry
from frontjobs.setups import WRONGS, is_tuple, is_word, need_setup, need_wrong
from frontjobs.standings import START
from frontjobs.tables import closes, table_of


def last_wrong(setup, events):
    """The WRONG that the last of these EVENTs is, or None; None, too, if they are no RUN."""
    standing, wrong = START, None
    for event in events:
        if not can_do(setup, standing, event):
            return None
        standing, wrong = behind_event(setup, standing, event)
    return wrong


def is_shortest(setup, wrong, events):
    """Whether these are a RUN that ends with the WRONG, and no such RUN has fewer jobs, or as many and fewer EVENTs."""
    least = fewest(setup, wrong)
    if least is None or len(events) != least[1] or last_wrong(setup, events) != wrong:
        return False
    return len([event for event in events if event[0] in KIND_WORDS]) == least[0]


def can_come(setup, wrong):
    """Whether the WRONG stands in the TRACE of some RUN."""
    inquiry = Inquiry(need_setup(setup))
    return inquiry.comes(need_wrong(wrong))


def fewest(setup, wrong):
    """How many EVENTs start a job, and how many there are, in a first RUN to the WRONG; None if it never comes."""
    inquiry = Inquiry(need_setup(setup))
    if not inquiry.comes(need_wrong(wrong)):
        return None
    return inquiry.first(wrong)[:2]


def paper(setup, wrong):
    """A PAPER of the SETUP and the WRONG."""
    inquiry = Inquiry(need_setup(setup))
    if not inquiry.comes(need_wrong(wrong)):
        return ("never", table_of(inquiry.coder, inquiry.tree().pairs()))
    inquiry.first(wrong)
    return ("comes", inquiry.search.run(wrong))


def check_paper(setup, wrong, paper):
    """The word of the PAPER; BadPaper of what is none of this SETUP and this WRONG."""
    need_setup(setup)
    need_wrong(wrong)
    if not is_tuple(paper, 2, 2) or not is_word(paper[0], ("comes", "never")) or not isinstance(paper[1], tuple):
        raise BadPaper(("form",))
    word, shown = paper
    if word == "comes" and not is_shortest(setup, wrong, shown):
        raise BadPaper(("run",))
    if word == "never" and not closes(setup, shown, wrong):
        raise BadPaper(("table",))
    return word


def wrongs_of(setup):
    """The tuple of the WRONGS that can come, in their order."""
    inquiry = Inquiry(need_setup(setup))
    return tuple([wrong for wrong in WRONGS if inquiry.comes(wrong)])
