"""Views: what a frame of rays sees of a scene, and that as a text."""

SIGNS = "0123456789abcdefghijklmnopqrstuvwxyz"


def moved(point, way, times):
    return (point[0] + times * way[0], point[1] + times * way[1], point[2] + times * way[2])


def number_met(scene, ray):
    hit = scene.first(ray)
    return -1 if hit is None else hit[1]


def row_seen(scene, start, right, way, wide):
    return [number_met(scene, (moved(start, right, x), way)) for x in range(wide)]


def seen(scene, frame, wide, high):
    corner = frame[0]
    right = frame[1]
    down = frame[2]
    way = frame[3]
    return [row_seen(scene, moved(corner, down, y), right, way, wide) for y in range(high)]


def sign_for(number):
    return "." if number == -1 else SIGNS[number % len(SIGNS)]


def row_drawn(row):
    return "".join([sign_for(number) for number in row])


def drawn(rows):
    return "\n".join([row_drawn(row) for row in rows])
