"""Orders given at once: every outcome that the rules allow."""
