package desk

import "testing"

// P1: a session goes on behind a fault of the program's own, and shows it.
func TestFault(t *testing.T) {
	d := newDesk()
	var none []string
	d.orders["index"] = order{does: func(args) string { return none[0] }}
	d.orders["thrown"] = order{does: func(args) string { panic("a text") }}
	for _, line := range []string{"index", "thrown"} {
		if got := d.answer(line); got != "error -1" {
			t.Errorf("%s is answered %q", line, got)
		}
	}
	if got := d.answer("tick 1"); got != "1" {
		t.Errorf("behind a fault tick is answered %q", got)
	}
}

// Whoever goes through the lines may stop.
func TestLinesStop(t *testing.T) {
	for line := range lines("a\nb\nc") {
		if line == "b" {
			return
		}
		if line != "a" {
			t.Errorf("a line is %q", line)
		}
	}
	t.Error("no line is b")
}
