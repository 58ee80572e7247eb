"""Changes: which rules make a claim stand or fall. The calls are in rulechange.desk."""
