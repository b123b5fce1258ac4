"""A shell: live logs by name, and lines of words that are executed on them."""

from flushtold.errors import DuplicateName, InvalidLine, InvalidName, UnknownLog
from flushtold.live import Live
from flushtold.texts import parse_log

# How many words a line with this first word has.
COUNTS = {
    "open": 3, "close": 2, "write": 2, "begin": 3, "end": 5, "stop": 2, "words": 3, "writes": 2, "faults": 2,
    "risk": 2, "undo": 2, "logs": 1,
}
LETTERS = "abcdefghijklmnopqrstuvwxyz"
DIGITS = "0123456789"
# What stands for a word that is no index: no write has it as its index.
NO_INDEX = -1


def words_of(line):
    """Return the words of a line, for any object."""
    if not isinstance(line, str) or "\n" in line:
        raise InvalidLine("a line is a string without line feeds")
    words = line.split(" ")
    if "" in words or words[0] not in COUNTS or len(words) != COUNTS[words[0]]:
        raise InvalidLine("no line has these words")
    return words


def is_name(word):
    """Return whether a word is a name."""
    return 1 <= len(word) <= 8 and all([letter in LETTERS for letter in word])


def joined(words):
    """Return the words in one string, "none" if there is none."""
    return " ".join(words) if words else "none"


def read_index(word):
    """Return the index that a word tells, or NO_INDEX if it tells none."""
    if not 1 <= len(word) <= 9 or not all([digit in DIGITS for digit in word]):
        return NO_INDEX
    return NO_INDEX if word[0] == "0" and word != "0" else int(word)


def read_carried(word):
    """Return the list of indexes that a word tells."""
    return [] if word == "-" else [read_index(part) for part in word.split(",")]


def read_next(word):
    """Return the index that a word tells, or None."""
    return None if word == "-" else read_index(word)


def let_write(live, words):
    """Let a write come and tell its index."""
    return str(live.write())


def let_begin(live, words):
    """Let a flush begin."""
    live.begin(read_index(words[0]))
    return "ok"


def let_end(live, words):
    """Let the flush end."""
    live.end(read_carried(words[0]), words[1], read_next(words[2]))
    return "ok"


def let_stop(live, words):
    """Let a stop come."""
    live.stop()
    return "ok"


def take_back(live, words):
    """Take the last event back."""
    live.undo()
    return "ok"


def tell_words(live, words):
    """Tell the words that a write was told."""
    return joined(live.words(read_index(words[0])))


def tell_writes(live, words):
    """Tell of each write its place, and whether it is carried."""
    return joined([f"{place}:{'yes' if carried else 'no'}" for place, carried, _ in live.writes])


def tell_faults(live, words):
    """Tell the faults of the run so far."""
    return joined(live.faults())


def tell_risk(live, words):
    """Tell the faults of this run and all that go on from it."""
    return joined(live.risk())


# What the lines about one live log do; each is given the words behind the name.
ACTIONS = {
    "write": let_write, "begin": let_begin, "end": let_end, "stop": let_stop, "undo": take_back,
    "words": tell_words, "writes": tell_writes, "faults": tell_faults, "risk": tell_risk,
}


class Shell:
    """Live logs by name."""

    def __init__(self):
        self._lives = {}

    def _begin_log(self, name, text):
        """Hold a live log of this text by a name that is free."""
        if not is_name(name):
            raise InvalidName("this is no name")
        if name in self._lives:
            raise DuplicateName("a live log has this name")
        self._lives[name] = Live(parse_log(text.replace(",", " ").replace("/", "\n")))

    def run(self, line):
        """Execute a line and return the answer."""
        words = words_of(line)
        if words[0] == "logs":
            return joined(sorted(self._lives))
        if words[0] == "open":
            self._begin_log(words[1], words[2])
            return "ok"
        if words[1] not in self._lives:
            raise UnknownLog("no live log has this name")
        if words[0] == "close":
            del self._lives[words[1]]
            return "ok"
        action = ACTIONS[words[0]]
        return action(self._lives[words[1]], words[2:])
