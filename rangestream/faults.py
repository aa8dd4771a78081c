"""What can stop a step on its way."""


class MoreWanted(Exception):
    """The bytes taken don't suffice for what is under way."""


class Damaged(Exception):
    """The bytes taken show that the stream is damaged."""
