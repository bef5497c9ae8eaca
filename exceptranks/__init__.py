"""Rules with exceptions: axioms that always hold, and rules that normally hold."""
