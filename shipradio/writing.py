"""How a ship's line is written, as a list of bytes."""

LINE_FEED = 10
QUOTE = 34

WORDS = (
    "name", "call", "imo", "kind", "bow", "stern", "port", "starboard", "draught", "to",
    "status", "turn", "speed", "course", "heading", "x", "y",
    "year", "month", "day", "hour", "minute", "second",
)


def codes(text):
    return [ord(letter) for letter in text]


def written_number(number):
    return codes(str(number))


def written_text(letters):
    return [QUOTE] + letters + [QUOTE]


def ship_line(number, known):
    line = written_number(number)
    for word in WORDS:
        if word in known:
            line.extend(codes(f" {word}="))
            line.extend(known[word])
    line.append(LINE_FEED)
    return line
