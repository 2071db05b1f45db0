"""Lives insured: what payments on one life or two are worth, told in exact fractions."""
