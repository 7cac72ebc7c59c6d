"""What all parts of the package build on: names, marks and cutters."""
