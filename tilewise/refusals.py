"""What is raised where bytes turn out not to be a code."""


# The calls answer it as -2.
class NotACode(Exception):
    pass
