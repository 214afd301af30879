"""Lotshown: a lottery whose draws can be checked."""
