"""Networks of neurons in single precision."""
