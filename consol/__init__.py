"""Consol: bonds that quote one another, and the money that follows."""
