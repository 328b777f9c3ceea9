"""Networks of gates and registers."""
