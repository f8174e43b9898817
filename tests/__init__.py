"""The tests of treewaysdesk."""
