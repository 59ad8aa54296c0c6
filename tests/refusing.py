"""How the model refuses a call."""


class Refused(Exception):
    pass


def need(held, number):
    if not held:
        raise Refused(number)
