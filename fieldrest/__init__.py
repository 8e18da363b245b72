"""Fieldrest: functions over records whose further fields are left open."""
