"""A herd kept various, whole: the herd's book."""
