"""Tidehall: ports. The calls are answered by tideports.harbour.answers."""
