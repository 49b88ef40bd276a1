"""Leases under clocks that drift, and never two that hold."""
