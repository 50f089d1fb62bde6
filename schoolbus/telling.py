"""How an answer is put together that tells first how many, then these."""


def counted(numbers):
    return [len(numbers)] + numbers
