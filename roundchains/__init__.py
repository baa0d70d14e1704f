"""Chains that go round, exactly: walks from state to state by chance, told in whole fractions."""
