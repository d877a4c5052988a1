"""The texts of catches: a row for each line, its name and its runs."""

from wirelooker.basics import figures, is_name
from wirelooker.catches import moments_of, names_of
from wirelooker.errors import NoText
from wirelooker.lines import is_line, long_of

LONGEST = 1000000000


def show_catch(catch):
    """The text of a catch."""
    return "\n".join([_row_of(name, line) for name, line in catch])


def _row_of(name, line):
    runs = [f"{level}x{long}" for level, long in line]
    return " ".join([name, *runs])


def read_catch(text):
    """The catch of a text, refused with NoText of the first row that can't stand there."""
    catch = ()
    for at, row in enumerate(text.split("\n")):
        pair = _pair_of(row)
        if pair is None or not _can_stand(catch, pair):
            raise NoText(at)
        catch = (*catch, pair)
    return catch


def _can_stand(catch, pair):
    """Whether a line may stand behind the lines of a catch, perhaps without any."""
    name, line = pair
    if len(catch) == 5 or name in names_of(catch) or long_of(line) > LONGEST:
        return False
    return catch == () or long_of(line) == moments_of(catch)


def _pair_of(row):
    """The name and the line that a row tells, None where it tells none."""
    name, *words = row.split(" ")
    line = tuple([_run_of(word) for word in words])
    # A run that isn't told well, None or of the length None or 0, is no run of a line.
    if not is_name(name) or not is_line(line):
        return None
    return (name, line)


def _run_of(word):
    """The run that a word tells, its length None where that is no number; None where it is of another form."""
    if word[:2] not in ("0x", "1x"):
        return None
    return (int(word[0]), figures(word[2:]))
