"""Wavehall: the air's bands, who disturbs whom, plans, moves, licences by hours, complaints."""
