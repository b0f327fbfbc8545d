"""Helicopters with fuel: who may go, hover and lift, and still come back."""
