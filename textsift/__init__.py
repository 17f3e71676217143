"""SIFT: what is asked of a JSON text, told while it comes. The way in is textsift.sift.answers."""
