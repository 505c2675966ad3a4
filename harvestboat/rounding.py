"""Division as the document asks for it everywhere: rounded up."""


def divided_up(number, by):
    """The number divided, rounded up to a whole one."""
    return (number + by - 1) // by
