"""Primetalks: talks that nest, and programs that keep them."""
