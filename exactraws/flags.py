"""The flags that tell what happened when something was put."""

INEXACT = 1
BY_NOUGHT = 2
HELD = 4
