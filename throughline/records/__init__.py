"""Records of what happens to packets: judged, written as text, and analysed (parts 10, 11 and 13)."""
