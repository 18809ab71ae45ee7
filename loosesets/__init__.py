"""bindhall: what hangs on what, told by the greatest loose sets."""
