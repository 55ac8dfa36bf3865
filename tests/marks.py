"""Short words for marks and entries, for the tests."""


def bank(*places):
    return [("bank", place) for place in places]


def book(*places):
    return [("book", place) for place in places]


def on_days(*days):
    return [(day, 1) for day in days]
