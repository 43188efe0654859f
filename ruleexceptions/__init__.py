"""Rules with exceptions: the calls are answered by ruleexceptions.code."""
