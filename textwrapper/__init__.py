"""Textwrapper: texts broken into lines by least sum of squared gaps."""
