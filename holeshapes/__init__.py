"""Trees searched and rewritten by patterns with holes; holeshapes.shapes.answers is the way in."""
