"""What lives on and changes: inboxes of readers, and desks where promises are kept."""
