"""A machine that sells: coins go in, goods fall, change comes out."""
