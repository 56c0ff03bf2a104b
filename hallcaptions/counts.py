"""How what has several numbers is told."""


# A reader of answers can't tell where a text ends but by how many bytes it has.
def counted(numbers):
    return [len(numbers)] + numbers
