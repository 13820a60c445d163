"""Terms held equal or different, and what follows."""
