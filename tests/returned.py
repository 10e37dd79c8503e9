"""Values that the package returned."""


def returned():
    return []
