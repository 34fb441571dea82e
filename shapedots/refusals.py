"""What is raised where a text is refused."""


# The text is not right: answered by -2.
class WrongText(ValueError):
    pass
