"""Chairwalks: chairs that are carried along by people who walk anyway."""
