"""The machine's end of things that are asked for, changed and watched over a net that loses."""
