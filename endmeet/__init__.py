"""Terms of signs and blanks, rules that put one for another, and whether all chains come to one end."""
