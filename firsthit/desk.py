"""The desk: the rows of a text, done one behind the other at a scene, and their answers."""

from firsthit.errors import BadRow, NoRay, NoShape, NotClosed
from firsthit.scenes import Scene
from firsthit.surfaces import is_closed, place_of, six_volume

FIGURES = "0123456789"
MOST_FIGURES = 9
MOST_SHAPES = 24
PLACES = ("outside", "on", "within")


class Desk:
    def __init__(self):
        self.scene = Scene([])

    def put(self, shape):
        if self.scene.size() >= MOST_SHAPES:
            raise NoShape("the desk has no room for one more")
        self.scene = self.scene.with_shape(shape)
        return self.scene.size() - 1

    def drop(self, number):
        self.scene = self.scene.without(number)

    def surface(self):
        shapes = [self.scene.shape(number) for number in range(self.scene.size())]
        return [shape[1:] for shape in shapes if shape[0] == "triangle"]


def points_of(numbers):
    return tuple([tuple(numbers[place:place + 3]) for place in range(0, len(numbers), 3)])


def yes_or_no(holds):
    return "yes" if holds else "no"


def hit_text(hit):
    top = hit[0][0]
    under = hit[0][1]
    number = hit[1]
    return f"{top} {number}" if under == 1 else f"{top}/{under} {number}"


def do_box(desk, numbers):
    return str(desk.put(("box",) + points_of(numbers)))


def do_triangle(desk, numbers):
    return str(desk.put(("triangle",) + points_of(numbers)))


def do_drop(desk, numbers):
    desk.drop(numbers[0])
    return "ok"


def do_size(desk, numbers):
    return str(desk.scene.size())


def do_first(desk, numbers):
    hit = desk.scene.first(points_of(numbers))
    return "none" if hit is None else hit_text(hit)


def do_every(desk, numbers):
    return ", ".join([hit_text(hit) for hit in desk.scene.every(points_of(numbers))])


def do_free(desk, numbers):
    ends = points_of(numbers)
    return yes_or_no(desk.scene.is_free(ends[0], ends[1]))


def do_closed(desk, numbers):
    return yes_or_no(is_closed(desk.surface()))


def do_volume(desk, numbers):
    return str(six_volume(desk.surface()))


def do_place(desk, numbers):
    return PLACES[place_of(tuple(numbers), desk.surface()) + 1]


# Each word with how many numbers stand behind it, and what it does.
ORDERS = {
    "box": (6, do_box),
    "triangle": (9, do_triangle),
    "drop": (1, do_drop),
    "size": (0, do_size),
    "first": (6, do_first),
    "every": (6, do_every),
    "free": (6, do_free),
    "closed": (0, do_closed),
    "volume": (0, do_volume),
    "place": (3, do_place),
}


def is_number(word):
    figures = word[1:] if word.startswith("-") else word
    if len(figures) == 0 or len(figures) > MOST_FIGURES:
        return False
    if figures.startswith("0"):
        return word == "0"
    return all([sign in FIGURES for sign in figures])


def number_of(word):
    if not is_number(word):
        raise BadRow("a number is 1 to 9 figures without noughts ahead")
    return int(word)


def answer_of(desk, row):
    # Blanks ahead, behind or doubled leave an empty word, which is neither an order nor a number.
    words = row.split(" ")
    order = ORDERS.get(words[0])
    if order is None or len(words) != order[0] + 1:
        raise BadRow("no such row")
    do = order[1]
    return do(desk, [number_of(word) for word in words[1:]])


def answer_or_refusal(desk, row):
    try:
        return answer_of(desk, row)
    except BadRow:
        return "refused: BadRow"
    except NoRay:
        return "refused: NoRay"
    except NoShape:
        return "refused: NoShape"
    except NotClosed:
        return "refused: NotClosed"


def play(text):
    desk = Desk()
    answers = []
    for row in text.split("\n"):
        if row.strip(" ") != "":
            answers.append(answer_or_refusal(desk, row))
    return answers
