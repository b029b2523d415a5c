"""A plain report, as a text and as numbers, of which a test puts one part otherwise."""


def bytes_of(text):
    return list(text.encode("latin-1"))


def text_of(station="LOWW", moment="161220Z", wind="18010KT", sight="8000", weather="", sky="NSC",
            degrees="10/05", pressure="Q1013", trend=""):
    words = (station, moment, wind, sight, weather, sky, degrees, pressure, trend)
    return " ".join(word for word in words if word) + "="


def numbers_of(station=(76, 79, 87, 87), moment=(16, 12, 20), wind=(180, 10, 0, 999, 999), sight=8000,
               degrees=(10, 5), pressure=1013, weather=(0,), sky=(0,), trend=(0, 0)):
    return [*station, *moment, *wind, sight, *degrees, pressure, *weather, *sky, *trend]
