"""Points whose pairs have kinds, with equal counts of thirds."""
