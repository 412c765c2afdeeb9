"""Least above, greatest below: small orders and lattices. The functions are in joinmeet.orders."""
