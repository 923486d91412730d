"""A policy rolled out: rules published by a controller, turned to by switches over a net that loses messages."""
