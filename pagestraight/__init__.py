"""Turned straight: pages that lie a little askew, sheared until they are straight."""
