"""Characters: which bytes are one, and the bytes of several.

A character is kept as the tuple of its bytes, so it goes out as it came in and counts as one.
"""

SPACE = (32,)
LINE_FEED = (10,)

# The rows of RFC 3629 for more than one byte: the first byte from and to, the second byte from
# and to, how many bytes in all. Overlong forms, surrogates and what's above U+10FFFF have no row.
LONG_FORMS = (
    (194, 223, 128, 191, 2),
    (224, 224, 160, 191, 3),
    (225, 236, 128, 191, 3),
    (237, 237, 128, 159, 3),
    (238, 239, 128, 191, 3),
    (240, 240, 144, 191, 4),
    (241, 243, 128, 191, 4),
    (244, 244, 128, 143, 4),
)


def has_form(numbers, place, form):
    stop = place + form[4]
    if stop > len(numbers) or not form[2] <= numbers[place + 1] <= form[3]:
        return False
    for number in numbers[place + 2:stop]:
        if not 128 <= number <= 191:
            return False
    return True


# How many bytes the character at place has; 0 if there is none.
def size_at(numbers, place):
    first = numbers[place]
    if first == 10 or 32 <= first <= 126:
        return 1
    for form in LONG_FORMS:
        if form[0] <= first <= form[1] and has_form(numbers, place, form):
            return form[4]
    return 0


# Stops at the first that isn't a character: the bytes of those read tell where that stands.
def characters_of(numbers):
    characters = []
    place = 0
    while place < len(numbers):
        size = size_at(numbers, place)
        if size == 0:
            break
        characters.append(tuple(numbers[place:place + size]))
        place += size
    return characters


def bytes_of(characters):
    numbers = []
    for character in characters:
        numbers.extend(character)
    return numbers


def are_characters(numbers):
    return len(bytes_of(characters_of(numbers))) == len(numbers)
