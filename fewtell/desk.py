"""A desk: lines that tell a survey what to do, or ask it something, and their answers."""

from fewtell.errors import FewError, Missing, NothingLeft
from fewtell.forms import form_of
from fewtell.guesses import mean, plan_form
from fewtell.kinds import is_numeral
from fewtell.ratios import ratio_text
from fewtell.single import only_guess
from fewtell.texts import read_program


def words_of(rest, many):
    """The words of the rest of a line, an empty list if there are not so many of them or one is empty."""
    words = rest.split(" ")
    if len(words) != many or "" in words:
        return []
    return words


def are_people(word):
    """Whether a word is that for people, of which it need not be known."""
    return all([is_numeral(index) for person in word.split(",") for index in person.split(".")])


def people_of(word):
    """The people that a word stands for."""
    return tuple([tuple([int(index) for index in person.split(".")]) for person in word.split(",")])


def is_number_word(word):
    """Whether a word is that for a number."""
    if word.startswith("-"):
        return is_numeral(word[1:]) and word != "-0"
    return is_numeral(word)


def answer_tell(survey, rest):
    """Tells a number."""
    words = words_of(rest, 3)
    if not words or not are_people(words[1]) or not is_number_word(words[2]):
        return "invalid"
    survey.tell(words[0], people_of(words[1]), int(words[2]))
    return "ok"


def answer_back(survey, rest):
    """Takes a number back."""
    words = words_of(rest, 2)
    if not words or not are_people(words[1]):
        return "invalid"
    survey.take_back(words[0], people_of(words[1]))
    return "ok"


def answer_keep(survey, rest):
    """Keeps the form of a program as a target."""
    name, _, text = rest.partition(" ")
    if name == "" or text == "":
        return "invalid"
    survey.keep(name, form_of(survey.plan.world, read_program(text)))
    return "ok"


def answer_drop(survey, rest):
    """Drops a target."""
    if not words_of(rest, 1):
        return "invalid"
    survey.drop(rest)
    return "ok"


def answer_estimate(survey, rest):
    """The estimate of a target."""
    if not words_of(rest, 1):
        return "invalid"
    return ratio_text(survey.estimate(rest))


def answer_mean(survey, rest):
    """The mean of a program with waves."""
    if rest == "":
        return "invalid"
    return str(mean(survey.plan, plan_form(survey.plan, read_program(rest))))


def answer_only(survey, rest):
    """Whether there is only one guess for a target."""
    if not words_of(rest, 1):
        return "invalid"
    return only_guess(survey.plan, survey.target_named(rest)).told()


def answer_undo(survey):
    """Takes the last step back."""
    survey.undo()
    return "ok"


def answer_redo(survey):
    """Makes a step again."""
    survey.redo()
    return "ok"


def answer_names(survey):
    """The names of the targets."""
    return " ".join(survey.names()) or "none"


def answer_told(survey):
    """The number of told entries."""
    return str(len(survey))


WORDS = {"undo": answer_undo, "redo": answer_redo, "names": answer_names, "told": answer_told}
BEGINNINGS = {
    "tell": answer_tell, "back": answer_back, "keep": answer_keep, "drop": answer_drop, "estimate": answer_estimate,
    "mean": answer_mean, "only": answer_only,
}


def answer_to(survey, line):
    """The answer of a survey to a line; raises the errors of what the line asks for."""
    if line in WORDS:
        ask = WORDS[line]
        return ask(survey)
    word, _, rest = line.partition(" ")
    if word not in BEGINNINGS:
        return "invalid"
    answer = BEGINNINGS[word]
    return answer(survey, rest)


class Desk:
    """Answers lines about a survey, and keeps a log of them."""

    def __init__(self, survey):
        self._survey = survey
        self._log = []

    def say(self, line):
        """The answer to a line."""
        try:
            answer = answer_to(self._survey, line)
        except (FewError, Missing, NothingLeft) as wrong:
            answer = f"error {wrong.code}"
        self._log.append((line, answer))
        return answer

    def __call__(self, line):
        return self.say(line)

    def survey(self):
        """The survey that is asked."""
        return self._survey

    def log(self):
        """The list of the pairs (line, answer)."""
        return list(self._log)

    def __len__(self):
        return len(self._log)
