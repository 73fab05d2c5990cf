"""Stillmain: permits on a works of mains."""
