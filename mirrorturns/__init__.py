"""Mirrorturns: rooms with mirrors that turn when a beam hits them."""
