"""Rooms for ever: rooms that are booked once, some times, or for ever."""
