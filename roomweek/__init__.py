"""Roomweek: rooms booked by hours, week by week."""
