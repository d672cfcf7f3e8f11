"""Days counted: spans, days of rest and stops on one calendar."""
