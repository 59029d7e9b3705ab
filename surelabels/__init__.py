"""Surelabels: machine-read labels, and what the wear of all of them can cost."""
