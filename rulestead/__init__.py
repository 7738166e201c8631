"""Rulestead: a rule base that survives losses of power."""
