"""The sky: nothing of note, an upright sight, or layers of clouds."""

from weathercode.figures import digits, insist
from weathercode.words import number_within

CLEAR = 0
CLEAR_WORD = "NSC"
UPRIGHT = 1
LAYERED = 2
COVERS = ("FEW", "SCT", "BKN", "OVC")
CLOUDS = ("", "CB", "TCU")
BROKEN = 3
OVERCAST = 4
MOST_LAYERS = 4
MOST_UPRIGHT = 100
MOST_HUNDREDS = 300
NO_CEILING = 999


def plain_sky_of(word):
    if word == CLEAR_WORD:
        return [CLEAR]
    if not word.startswith("VV"):
        return None
    hundreds = number_within(word[2:], 3, 0, MOST_UPRIGHT)
    return None if hundreds is None else [UPRIGHT, hundreds]


def layer_of(word):
    cover = word[:3]
    hundreds = number_within(word[3:6], 3, 0, MOST_HUNDREDS)
    cloud = word[6:]
    if cover not in COVERS or hundreds is None or cloud not in CLOUDS:
        return None
    return [COVERS.index(cover) + 1, hundreds, CLOUDS.index(cloud)]


def layer_follows(layers, layer):
    if len(layers) == 0:
        return True
    before = layers[-1]
    return len(layers) < MOST_LAYERS and before[0] != OVERCAST and layer[1] >= before[1]


# A layer that may not follow is left where it is: nothing else takes it, so it is refused.
def take_layers(cursor):
    layers = []
    layer = layer_of(cursor.word())
    while layer is not None and layer_follows(layers, layer):
        layers.append(layer)
        cursor.advance()
        layer = layer_of(cursor.word())
    return layers


def take_sky(cursor):
    plain = cursor.optional(plain_sky_of)
    if plain is not None:
        return plain
    layers = take_layers(cursor)
    if len(layers) == 0:
        return None
    numbers = [LAYERED, len(layers)]
    for layer in layers:
        numbers.extend(layer)
    return numbers


# The ceiling of a sky that is told in numbers.
def ceiling_of(sky):
    if sky[0] == UPRIGHT:
        return sky[1]
    for k in range(2, len(sky), 3):
        if sky[k] >= BROKEN:
            return sky[k + 1]
    return NO_CEILING


def layer_text(layer):
    return COVERS[layer[0] - 1] + digits(layer[1], 3) + CLOUDS[layer[2]]


def tell_layers(figures):
    layers = []
    count = figures.take(1, MOST_LAYERS)
    for turn in range(count):
        cover = figures.take(1, len(COVERS))
        hundreds = figures.take(0, MOST_HUNDREDS)
        cloud = figures.take(0, len(CLOUDS) - 1)
        layer = [cover, hundreds, cloud]
        insist(layer_follows(layers, layer))
        layers.append(layer)
    return [layer_text(layer) for layer in layers]


def tell_sky(figures):
    kind = figures.take(CLEAR, LAYERED)
    if kind == CLEAR:
        return [CLEAR_WORD]
    if kind == UPRIGHT:
        return ["VV" + digits(figures.take(0, MOST_UPRIGHT), 3)]
    return tell_layers(figures)
