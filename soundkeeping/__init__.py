"""soundkeep: recordings kept through damage."""
