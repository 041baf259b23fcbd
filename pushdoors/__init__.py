"""Pushdoors: houses of doors that want pushes."""
