"""What is raised where a call is refused."""


# The calls answer it as -8.
class OutOfRange(Exception):
    pass


# The calls answer it as -2.
class NotACode(Exception):
    pass
