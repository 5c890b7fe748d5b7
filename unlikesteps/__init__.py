"""Points on boards, no two steps between them alike."""
