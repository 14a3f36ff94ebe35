"""Macros in m4's manner: the calls are answered by textmill.desk."""
