"""The sky: nothing of note, an upright sight, or layers of clouds."""

from weathercode.words import number_within

CLEAR = 0
UPRIGHT = 1
LAYERED = 2
COVERS = ("FEW", "SCT", "BKN", "OVC")
CLOUDS = ("", "CB", "TCU")
OVERCAST = 4
MOST_LAYERS = 4


def plain_sky_of(word):
    if word == "NSC":
        return [CLEAR]
    if not word.startswith("VV"):
        return None
    hundreds = number_within(word[2:], 3, 0, 100)
    return None if hundreds is None else [UPRIGHT, hundreds]


def layer_of(word):
    cover = word[:3]
    hundreds = number_within(word[3:6], 3, 0, 300)
    cloud = word[6:]
    if cover not in COVERS or hundreds is None or cloud not in CLOUDS:
        return None
    return [COVERS.index(cover) + 1, hundreds, CLOUDS.index(cloud)]


def layer_follows(layers, layer):
    if len(layers) == 0:
        return True
    before = layers[-1]
    return len(layers) < MOST_LAYERS and before[0] != OVERCAST and layer[1] >= before[1]


# A layer that may not follow is left where it is: nothing else takes it, so it is refused.
def take_layers(cursor):
    layers = []
    layer = layer_of(cursor.word())
    while layer is not None and layer_follows(layers, layer):
        layers.append(layer)
        cursor.advance()
        layer = layer_of(cursor.word())
    return layers


def take_sky(cursor):
    plain = cursor.optional(plain_sky_of)
    if plain is not None:
        return plain
    layers = take_layers(cursor)
    if len(layers) == 0:
        return None
    numbers = [LAYERED, len(layers)]
    for layer in layers:
        numbers.extend(layer)
    return numbers
