"""Pictures of numbers: how what stands in a cell is shown, and how what is entered is read."""
