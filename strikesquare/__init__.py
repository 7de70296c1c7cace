"""A square filled by reasons: numbers are struck step by step, the easiest reason first."""
