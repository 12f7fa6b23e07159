"""Rulestand: rules with negation, aggregates and numbers, with one meaning."""
