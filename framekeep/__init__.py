"""Captures: frames that are kept while there is room, and filters that choose among them."""
