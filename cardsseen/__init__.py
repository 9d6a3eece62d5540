"""Games of tricks with all cards seen."""
