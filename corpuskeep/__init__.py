"""Corpuskeep: collections of texts that keep their promises through every change."""
