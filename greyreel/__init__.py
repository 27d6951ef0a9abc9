"""Moving pictures told in few bits."""
