"""Books: sheets that change, with the standings of their questions and the states ahead and undone."""

from trialground.deeds import is_left, made_by, question_along, standing_along, standing_in
from trialground.errors import InvalidDeed, NothingToRedo, NothingToUndo
from trialground.sheets import MOST_QUESTIONS, check_sheet, is_name
from trialground.trials import is_question_of

MOST_EARLIER = 20


def fresh_book(sheet):
    """The book of a sheet, without anything ahead of it."""
    check_sheet(sheet)
    _, trial, questions = sheet
    standings = tuple([standing_in(trial, question) for _, question in questions])
    return ((sheet, standings), (), ())


def sheet_in(book):
    """The sheet of a book."""
    return book[0][0]


def standings_in(book):
    """The standings of the questions of a book's sheet, in order."""
    return book[0][1]


def changed(book, change):
    """The book behind a change."""
    state, earlier, _ = book
    _check_change(state[0], change)
    return (_state_behind(state, change), (earlier + (state,))[-MOST_EARLIER:], ())


def work_of(book, change):
    """The ascending tuple of the names of the questions behind a change that are looked at anew."""
    state = book[0]
    _check_change(state[0], change)
    if change[0] == "drop":
        return ()
    if change[0] == "keep":
        return (change[1],)
    trial, deed = state[0][1], _deed_of(change)
    return tuple([name for name, _, stands in _kept_in(state) if not is_left(trial, deed, stands)])


def undone(book):
    """The book with its last change undone."""
    state, earlier, later = book
    if earlier == ():
        raise NothingToUndo()
    return (earlier[-1], earlier[:-1], (state,) + later)


def again(book):
    """The book with the change that was undone last done again."""
    state, earlier, later = book
    if later == ():
        raise NothingToRedo()
    return (later[0], earlier + (state,), later[1:])


def _check_change(sheet, change):
    """Raise InvalidDeed for no change that fits a sheet."""
    if not _is_change(sheet, change):
        raise InvalidDeed(change)


def _is_change(sheet, value):
    """Tell whether a value, whatever it is, is a change that fits a sheet."""
    if not isinstance(value, tuple) or len(value) == 0 or not isinstance(value[0], str):
        return False
    names, trial, questions = sheet
    kept = [name for name, _ in questions]
    if value[0] == "unknown":
        named = len(value) == 3 and is_name(value[2]) and value[2] not in names
        return named and made_by(trial, value[:2]) is not None
    if value[0] == "keep":
        named = len(value) == 3 and is_name(value[1]) and is_question_of(trial, value[2])
        return named and (value[1] in kept or len(kept) < MOST_QUESTIONS)
    if value[0] == "drop":
        return len(value) == 2 and is_name(value[1]) and value[1] in kept
    return made_by(trial, value) is not None


def _deed_of(change):
    """The deed of a change other than keep and drop."""
    return change[:2] if change[0] == "unknown" else change


def _kept_in(state):
    """The name, the question and the standing of each question of a state."""
    sheet, standings = state
    return [(name, question, stands) for (name, question), stands in zip(sheet[2], standings)]


def _state_of(names, trial, kept):
    """The state with these names, this trial, and the questions that are told as in _kept_in."""
    questions = tuple([(name, question) for name, question, _ in kept])
    return ((names, trial, questions), tuple([each[2] for each in kept]))


def _state_behind(state, change):
    """The state behind a change that fits."""
    names, trial, _ = state[0]
    if change[0] in ("keep", "drop"):
        kept = [each for each in _kept_in(state) if each[0] != change[1]]
        if change[0] == "keep":
            kept.append((change[1], change[2], standing_in(trial, change[2])))
        return _state_of(names, trial, sorted(kept, key=lambda each: each[0]))
    deed = _deed_of(change)
    made = made_by(trial, deed)
    kept = [_led_along(trial, deed, made, each) for each in _kept_in(state)]
    return _state_of(names + change[2:] if deed != change else names, made, kept)


def _led_along(trial, deed, made, kept):
    """A question behind a deed that makes a trial: only if the deed does not leave it, it is looked at anew."""
    name, question, stands = kept
    along = question_along(deed, question)
    if is_left(trial, deed, stands):
        return (name, along, standing_along(deed, stands))
    return (name, along, standing_in(made, along))
