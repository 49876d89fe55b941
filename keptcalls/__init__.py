"""Keptcalls: functions whose answers are kept, over things that change."""
