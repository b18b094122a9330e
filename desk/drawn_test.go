package desk_test

import (
	"strings"
	"testing"

	"rotor/desk"
)

// die is numbers that look drawn, the same each time.
type die uint64

func (d *die) n(most int) int {
	*d = *d*6364136223846793005 + 1442695040888963407
	return int(uint64(*d>>33) % uint64(most))
}

func (d *die) of(l ...string) string { return l[d.n(len(l))] }

// line is a line of a drawn session, behind some grants: most are good ones.
func (d *die) line() string {
	id, g := d.n(4), d.n(3)
	switch d.n(9) {
	case 0:
		return "grant " + d.of("app", "web", "App") + " ann " + d.of("read", "read+write", "_", "R")
	case 1, 2:
		return "rotate " + r(id, g) + d.of(" one", " two", " _") + d.of(" read", " _", " write")
	case 3:
		return "mint " + r(id, g)
	case 4:
		return "show " + a(id, g, d.n(30))
	case 5:
		return d.of("cut 0", "cut 3", "cut -1", "open", "open", "save")
	case 6:
		return d.of("tick 1", "tick 7", "sweep", "kill 1", "kill 2", "tick -1")
	case 7:
		return d.of("", "  ", "x", "help", "least b+a", "tag 3 x", "new 1 9 9 9", "token a 1 0 9")
	}
	return d.of("families", "log", "writes")
}

func (d *die) lines() []string {
	l := []string{"grant app ann read+write", "grant app bob read"}
	for range d.n(60) {
		l = append(l, d.line())
	}
	return l
}

// 8.1: what a line is answered hangs on the lines ahead of it alone: the beginning of a session is answered by the beginning of its answers.
func TestBeginnings(t *testing.T) {
	d := die(5)
	for range 30 {
		lines := d.lines()
		whole := desk.Session(strings.Join(lines, "\n") + "\n")
		if n := strings.Count(whole, "\n"); n != len(lines) {
			t.Fatalf("%d lines are answered by %d", len(lines), n)
		}
		for k := 1; k < len(lines); k++ {
			part := desk.Session(strings.Join(lines[:k], "\n") + "\n")
			if !strings.HasPrefix(whole, part) || strings.Count(part, "\n") != k {
				t.Fatalf("the first %d lines of %q are answered otherwise", k, lines)
			}
		}
	}
}

// 8.1: more blanks change nothing, and lines that tell an error, or ask only, don't change what the others are answered.
func TestLinesThatChangeNothing(t *testing.T) {
	d := die(6)
	idle := []string{"", "   ", "x", "tick", "kill x", "new 1", "new -1 0 0 0", "cut 01", "open 1", "save 1", "sweep 1", "tick -1", "kill -1", "rotate x y z", "rotate " + r(1, 0) + " _ read", "families", "log", "writes", "help", "least b", "tag 1 x", "token x 1 1 1", "mint " + r(1, 0), "show " + a(1, 0, 99), "grant A b c"}
	for range 60 {
		lines := d.lines()
		want := answers(t, strings.Join(lines, "\n")+"\n")
		var more []string
		for _, l := range lines {
			more = append(more, d.of(idle...), d.of("", "  ")+strings.ReplaceAll(l, " ", d.of(" ", "   "))+d.of("", " "))
		}
		got := answers(t, strings.Join(more, "\n")+"\n")
		for i := range want {
			if got[2*i+1] != want[i] {
				t.Fatalf("line %d, %q, of %q is answered %q behind idle lines; want %q", i+1, lines[i], lines, got[2*i+1], want[i])
			}
		}
	}
}

// P1: every text is answered, line by line, whatever it is.
func TestAnyText(t *testing.T) {
	d := die(7)
	pieces := []string{" ", " ", "\n", "\n", "\t", "\xff", "\x00", "é", "_", "-", "+", ".", "0", "1", "9223372036854775807", "-9223372036854775808", "new", "open", "grant", "rotate", "mint", "show", "kill", "save", "cut", "tick", "sweep", "writes", "log", "families", "least", "tag", "token", "help", "r", "a", "r.1.0.", "a.1.0.5.", r(1, 0), a(1, 0, 5), "read", "app"}
	for range 2000 {
		var s string
		for range d.n(60) {
			s += d.of(pieces...)
		}
		want := strings.Count(strings.TrimSuffix(s, "\n"), "\n") + 1
		if got := answers(t, s); len(got) != want {
			t.Fatalf("%q: %d lines are answered by %d", s, want, len(got))
		}
	}
}
