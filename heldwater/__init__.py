"""heldwater: the best operation of reservoirs on a river, for rights by their age."""
