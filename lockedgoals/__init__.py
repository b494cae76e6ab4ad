"""Agents that may change their own goals: what such a change costs, exactly."""
