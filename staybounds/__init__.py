"""Staybounds: rules of staying, judged for all calendars."""
