"""Nonearer: a store of vectors whose answers come with a paper that no other item is nearer."""
