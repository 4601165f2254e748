"""A vector processor whose lanes are chosen by predicates."""
