"""Wheelchorus: street boxes that may sound at once, and what a watch room hears of them."""
