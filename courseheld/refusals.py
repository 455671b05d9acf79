"""The refusals, each a number alone."""


def out_of_range():
    """The refusal of a number that isn't among those told, or of a craft that isn't there."""
    return [-2]


def no_scheme():
    """The refusal where there's no scheme."""
    return [-3]


def not_in_scheme():
    """The refusal of a block that the scheme hasn't, of a wrong count of blocks, of a craft that hasn't ticked."""
    return [-4]


def not_as_told():
    """The refusal of a block or of what's put that isn't as told, or of a number that isn't finite."""
    return [-5]
