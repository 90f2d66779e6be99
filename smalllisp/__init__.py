"""A small Lisp: read, evaluated, written. Its one function for use is smalllisp.lisp.answers."""
