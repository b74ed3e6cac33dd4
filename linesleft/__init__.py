"""Lines left out: which lines between places can go while the others still lead nearly as well."""
