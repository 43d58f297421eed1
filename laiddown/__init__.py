"""By what was laid down alone: the second stage of a disputation by rules."""
