"""Several answers of a question: what lets all of them go, any of them, or one while others stay."""

from answercut.amounts import are_loose_rows, open_rows, price_of
from answercut.blame import are_papers, cost_enough
from answercut.books import MOST_ROWS, MOST_TABLES, is_integer, is_worth, rises, without_rows
from answercut.errors import NoAnswer, NoQuestion, TooMany
from answercut.nets import Course, cut_of_courses, is_standing, least_cut, piece_lines, shows_least
from answercut.questions import MOST_ATOMS, MOST_PARTS, answers, holds, is_way, need_prices, need_question
from answercut.questions import part_of, pieces, put_answer, ways

MOST_CHOICES = 60


def together(book, question, some):
    """Return (book, closed question, name) with a firm table of some answers: its cuts let all of them go."""
    _need_head(book, question)
    _need_some(answers(book, question), some)
    names, atoms = question
    if len(atoms) >= MOST_ATOMS or len(names) > MOST_PARTS:
        raise TooMany(MOST_ATOMS)
    if len(some) > MOST_ROWS:
        raise TooMany(MOST_ROWS)
    if len(book) >= MOST_TABLES:
        raise TooMany(MOST_TABLES)
    taken = ["all"] + [f"all{number}" for number in range(1, MOST_TABLES)]
    name = [other for other in taken if other not in book][0]
    return {**book, name: (len(names), some)}, ((), atoms + ((name, names),)), name


def all_gone(book, question, prices, some):
    """Return what least_cut tells of all of some answers going together, nothing being pinned."""
    more, closed, name = together(book, question, some)
    need_prices(question, prices)
    return least_cut(more, closed, {**prices, name: None}, None)


def any_gone(book, question, prices, some):
    """Return (answer, papers): the first of some answers with the least price, and what is told of each of them."""
    _need_some(_answers_with(book, question, prices), some)
    papers = tuple([(answer, least_cut(book, put_answer(question, answer), prices, None)) for answer in some])
    return _weakest_of(papers), papers


def _weakest_of(papers):
    """Return the first answer with the least price, None if no answer has a price."""
    known = [(told[1], answer) for answer, told in papers if told[0] == "cut"]
    return min(known)[1] if known else None


def shows_any(book, question, prices, some, thing):
    """Return whether any object is what any_gone may return."""
    _need_some(_answers_with(book, question, prices), some)
    if not isinstance(thing, tuple) or len(thing) != 2:
        return False
    answer, papers = thing
    if not isinstance(papers, tuple) or len(papers) != len(some):
        return False
    if not all([isinstance(paper, tuple) and len(paper) == 2 for paper in papers]):
        return False
    if not all([_is_answer(each, paper[0]) for each, paper in zip(some, papers)]):
        return False
    if not all([shows_least(book, put_answer(question, each), prices, None, told) for each, told in papers]):
        return False
    weakest = _weakest_of(papers)
    return answer is None if weakest is None else _is_answer(weakest, answer)


def sparing(book, question, prices, going, staying):
    """Return ("spared", price, rows, ways, papers) of one answer that goes while others stay, or ("none", papers)."""
    _need_apart(book, question, prices, going, staying)
    closed = put_answer(question, going)
    # With a tuple of pinned rows all loose tables stand in the lines.
    lines = piece_lines(closed, prices, ())
    choices = _choices(book, question, prices, staying)
    parts = [part_of(closed, piece) for piece in pieces(closed)]
    laid = [(part, line, ways(book, part)) for part, line in zip(parts, lines)]
    cuts = []
    for rows in choices:
        courses = [Course(part, prices, rows, line, found) for part, line, found in laid]
        cuts.append(cut_of_courses(closed, courses, prices, {}))
    known = [cut[1] for cut in cuts if cut[0] == "cut"]
    if not known:
        return "none", tuple([(rows, cut[1]) for rows, cut in zip(choices, cuts)])
    price = min(known)
    papers = tuple([(rows, _carried(cut, price)) for rows, cut in zip(choices, cuts)])
    kept, lost = [(rows, cut[2]) for rows, cut in zip(choices, cuts) if cut[:2] == ("cut", price)][0]
    return "spared", price, lost, choices[kept], papers


def _carried(cut, price):
    """Return amounts that add up to a price or more; on a way that stands any amount may be."""
    return cut[3] if cut[0] == "cut" else ((cut[1], price),)


def shows_spared(book, question, prices, going, staying, thing):
    """Return whether any object is what sparing may return."""
    _need_apart(book, question, prices, going, staying)
    closed = put_answer(question, going)
    choices = _choices(book, question, prices, staying)
    if not isinstance(thing, tuple):
        return False
    if len(thing) == 2 and thing[0] == "none":
        if not are_papers(book, prices, choices, thing[1]):
            return False
        return all([is_standing(book, closed, prices, rows, way) for rows, way in thing[1]])
    if len(thing) != 5 or thing[0] != "spared" or not are_papers(book, prices, choices, thing[4]):
        return False
    _, price, rows, found, papers = thing
    if not are_loose_rows(book, prices, rows) or not is_integer(price) or price != price_of(prices, rows):
        return False
    left = without_rows(book, rows)
    if holds(left, closed) or not isinstance(found, tuple) or len(found) != len(staying):
        return False
    if not all([is_way(left, put_answer(question, answer), way) for answer, way in zip(staying, found)]):
        return False
    return all([cost_enough(book, closed, prices, kept, price, amounts) for kept, amounts in papers])


def _choices(book, question, prices, staying):
    """Return an ascending dict from the sets of the loose rows of choices to such a choice, a way for each answer."""
    found, many = {(): ()}, 1
    for answer in staying:
        closed = put_answer(question, answer)
        sets = {}
        for way in ways(book, closed):
            sets.setdefault(tuple(open_rows(closed, prices, way, None)), way)
        many = many * len(sets)
        if many > MOST_CHOICES:
            raise TooMany(MOST_CHOICES)
        longer = {}
        for rows, chosen in found.items():
            for more, way in sets.items():
                longer.setdefault(tuple(sorted(set(rows + more))), chosen + (way,))
        found = longer
    return {rows: found[rows] for rows in sorted(found)}


def _need_head(book, question):
    need_question(book, question)
    if not question[0]:
        raise NoQuestion("the question has no head names")


def _answers_with(book, question, prices):
    """Return the answers, or raise NoQuestion, NoPrice or TooMany."""
    _need_head(book, question)
    need_prices(question, prices)
    return answers(book, question)


def _need_apart(book, question, prices, going, staying):
    found = _answers_with(book, question, prices)
    _need_some(found, (going,))
    _need_some(found, staying)


def _need_some(found, some):
    """Raise NoAnswer unless any object some is an ascending tuple of different ones of the answers that were found."""
    known = {answer: True for answer in found}
    if not isinstance(some, tuple) or not all([_is_among(known, answer) for answer in some]) or not rises(some):
        raise NoAnswer("this is no ascending tuple of different answers")


def _is_among(known, thing):
    # True and False equal integers, so it is not enough that an answer equals the thing.
    return isinstance(thing, tuple) and all([is_worth(worth) for worth in thing]) and thing in known


def _is_answer(answer, thing):
    return _is_among({answer: True}, thing)
