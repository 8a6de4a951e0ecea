"""Paintyard: a library of pictures, whole."""
