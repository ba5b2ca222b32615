"""Wayhold: journeys of legs, kept whole when runs slip, fall away and come back."""
