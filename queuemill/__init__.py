"""Queuemill: a language of funs, deeds and parts, laid to rows of a machine."""
