"""Points round a ring, as many as an odd prime has, each leading on by the squares' remainders."""
