package desk_test

import (
	"slices"
	"strconv"
	"strings"
	"testing"

	"rotor/api"
	"rotor/desk"
	"rotor/mac"
	"rotor/token"
)

const most = api.MaxNumber

const helpLine = "cut families grant help kill least log mint new open rotate save show sweep tag tick token writes"

// written is a token's text, by a key.
func written(key int, k token.Token) string {
	text, err := token.Write(key, k)
	if err != nil {
		panic(err)
	}
	return text
}

// r is a refresh token by the key that a session has at first.
func r(id, generation int) string {
	return written(1, token.Token{Kind: token.Refresh, Family: id, Generation: generation})
}

// a is an access token by the key that a session has at first.
func a(id, generation, ends int) string {
	return written(1, token.Token{Kind: token.Access, Family: id, Generation: generation, Ends: ends})
}

// talk holds what a session answers, line by line, against what it should: a line, its answer, a line, its answer ..
func talk(t *testing.T, pairs ...string) {
	t.Helper()
	var lines, want []string
	for i := 0; i < len(pairs); i += 2 {
		lines, want = append(lines, pairs[i]), append(want, pairs[i+1])
	}
	got := answers(t, strings.Join(lines, "\n")+"\n")
	if len(got) != len(want) {
		t.Fatalf("%d lines are answered by %d", len(want), len(got))
	}
	for i := range want {
		if got[i] != want[i] {
			t.Errorf("line %d, %q, is answered %q; want %q", i+1, lines[i], got[i], want[i])
		}
	}
}

// answers is the lines that a session answers.
func answers(t *testing.T, text string) []string {
	t.Helper()
	got := desk.Session(text)
	if !strings.HasSuffix(got, "\n") {
		t.Fatalf("%.80q is answered %.80q, without a line feed at its end", text, got)
	}
	return strings.Split(strings.TrimSuffix(got, "\n"), "\n")
}

func wantSession(t *testing.T, text, want string) {
	t.Helper()
	if got := desk.Session(text); got != want {
		t.Errorf("%.80q is answered %.200q; want %.200q", text, got, want)
	}
}

// join is several dialogues as one.
func join(parts ...[]string) []string { return slices.Concat(parts...) }

// repeat is a dialogue so many times.
func repeat(n int, pairs ...string) []string { return slices.Repeat(pairs, n) }

// 8.1: how a text is cut into lines.
func TestLines(t *testing.T) {
	wantSession(t, "", "ok\n")
	wantSession(t, "\n", "ok\n")
	wantSession(t, "\n\n", "ok\nok\n")
	wantSession(t, "\n\n\n", "ok\nok\nok\n")
	wantSession(t, " ", "ok\n")
	wantSession(t, "   \n  ", "ok\nok\n")
	wantSession(t, "tick 1", "1\n")
	wantSession(t, "tick 1\n", "1\n")
	wantSession(t, "tick 1\n\n", "1\nok\n")
	wantSession(t, "\ntick 1", "ok\n1\n")
	wantSession(t, "tick 1\ntick 2", "1\n3\n")
	wantSession(t, "tick 1\n\ntick 2\n", "1\nok\n3\n")
	wantSession(t, "tick 1\n \ntick 2\n ", "1\nok\n3\nok\n")
	wantSession(t, "tick 1\r\ntick 1", "error 3\n1\n")
}

// 8.1: how a line is cut into words: at blanks, and at nothing else that looks so.
func TestWords(t *testing.T) {
	wantSession(t, "  tick   1  ", "1\n")
	wantSession(t, " help", helpLine+"\n")
	wantSession(t, "tick 1 \n    tick    2\ntick 3    ", "1\n3\n6\n")
	for _, blank := range []string{"\t", "\r", "\v", "\f", "\x00", "\u0085", "\u00a0", "\u2003", "\u3000", "\xff", "\xc0\xa0", "\xe0\x80\xa0"} {
		wantSession(t, "tick"+blank+"1", "error 3\n")
		wantSession(t, "help"+blank, "error 3\n")
		wantSession(t, blank, "error 3\n")
		// In a word it is a byte as any other.
		word := "x" + blank + "y" + blank
		wantSession(t, "tag 1 "+word, mac.Tag(1, word)+"\n")
	}
}

// 8.1: a text that is too long is not answered line by line.
func TestTooLong(t *testing.T) {
	wantSession(t, strings.Repeat("x", api.MaxText), "error 3\n")
	wantSession(t, strings.Repeat("x", api.MaxText-1)+"\n", "error 3\n")
	wantSession(t, strings.Repeat("\n", api.MaxText), strings.Repeat("ok\n", api.MaxText))
	wantSession(t, strings.Repeat(" ", api.MaxText), "ok\n")
	wantSession(t, strings.Repeat("x", api.MaxText+1), "error 4\n")
	wantSession(t, strings.Repeat("x", api.MaxText)+"\n", "error 4\n")
	wantSession(t, strings.Repeat("\n", api.MaxText+1), "error 4\n")
	wantSession(t, strings.Repeat(" ", api.MaxText+1), "error 4\n")
	wantSession(t, strings.Repeat("help\n", api.MaxText/5), strings.Repeat(helpLine+"\n", api.MaxText/5))
	wantSession(t, strings.Repeat("help\n", api.MaxText/5)+"x", "error 4\n")
}

// allLines is each line that may be told, with good words; behind one grant all do what they tell.
func allLines() []string {
	return []string{
		"new 1 2 3 4", "open", "grant app ann read", "rotate " + r(1, 0) + " q read", "mint " + r(1, 0), "show " + a(1, 0, 5),
		"kill 1", "save", "cut 7", "tick 3", "sweep", "writes", "log", "families", "least b+a", "tag 1 text", "token r 1 0 0", "help",
	}
}

// 8.1: ErrForm: another first word.
func TestFirstWord(t *testing.T) {
	for _, line := range allLines() {
		first, rest, _ := strings.Cut(line, " ")
		for _, other := range []string{"x", first + "x", "x" + first, strings.ToUpper(first), first[:len(first)-1], "_", "error", "ok", "0", "-"} {
			wantSession(t, other+" "+rest, "error 3\n")
		}
	}
	talk(t, "x", "error 3", "ok", "error 3", "", "ok", "tick", "error 3", "families", "0 1")
}

// 8.1: ErrForm: a word less, or more, than is told; nothing is changed then.
func TestHowManyWords(t *testing.T) {
	state := []string{"families", "0 2, 1 app ann read 0 0 0 _", "writes", "1", "log", "1 false"}
	for _, line := range allLines() {
		words := strings.Fields(line)
		wrong := []string{line + " 1", line + " x", line + " _", line + " 1 1 1 1 1 1 1 1"}
		if len(words) > 1 {
			wrong = append(wrong, words[0], strings.Join(words[:len(words)-1], " "))
		}
		for _, w := range wrong {
			talk(t, join([]string{"grant app ann read", r(1, 0), w, "error 3"}, state)...)
		}
	}
}

// 8.1: words that are numbers, in each place of each line: ErrForm, unless they are.
func TestNumbers(t *testing.T) {
	forms := []string{
		"new N 2 3 4", "new 1 N 3 4", "new 1 2 N 4", "new 1 2 3 N", "kill N", "cut N", "tick N", "tag N text",
		"token r N 0 0", "token r 0 N 0", "token r 0 0 N", "token a N 0 0", "token a 0 N 0", "token a 0 0 N",
	}
	none := []string{
		"x", "_", "-", "--1", "+1", "+0", "00", "01", "-01", "-0", "-00", "1.0", "1.", "1e3", "1_000", "0x1", "0b1", "1,", "1-", "١", "1\xff",
		"9223372036854775808", "-9223372036854775809", "18446744073709551616", "99999999999999999999", strings.Repeat("9", 1000),
	}
	for _, f := range forms {
		for _, n := range none {
			talk(t, "grant app ann read", r(1, 0), strings.Replace(f, "N", n, 1), "error 3", "families", "0 2, 1 app ann read 0 0 0 _")
		}
	}
	least, greatest := "-9223372036854775808", "9223372036854775807"
	talk(t,
		"kill "+least, "error 7", "kill "+greatest, "error 7", "kill 0", "error 7", "kill -1", "error 7",
		"tick "+least, "error 2", "tick "+greatest, "error 2",
		"tag "+least+" x", mac.Tag(-1<<63, "x"), "tag "+greatest+" x", mac.Tag(1<<63-1, "x"), "tag 0 x", mac.Tag(0, "x"), "tag -1 x", mac.Tag(-1, "x"),
		"new "+least+" 0 0 0", "error 2", "new 0 0 0 "+greatest, "error 2",
		"token r "+least+" 0 0", "error 1", "token a 0 0 "+greatest, "error 1",
		"cut "+least, "cut", "grant a b c", r(1, 0), "cut "+greatest, "cut", "grant a b c", r(2, 0),
	)
}

// 8.1: the rules that hold at first.
func TestFirstRules(t *testing.T) {
	talk(t, "families", "0 1", "log", "0 false", "writes", "0")
	talk(t, "grant app ann read", "r.1.0."+mac.Tag(1, "r.1.0"))
	talk(t, "grant app ann read", r(1, 0), "mint "+r(1, 0), a(1, 0, 5))
	talk(t, "grant app ann read", r(1, 0), "tick 20", "20", "mint "+r(1, 0), a(1, 0, 25), "tick 1", "21", "mint "+r(1, 0), "error 10")
	live := []string{"grant app ann read", r(1, 0)}
	for g := range 5 {
		live = append(live, "tick 20", strconv.Itoa(20*(g+1)), "rotate "+r(1, g)+" q read", r(1, g+1))
	}
	talk(t, join(live, []string{"mint " + r(1, 5), a(1, 5, 105), "tick 1", "101", "mint " + r(1, 5), "error 10"})...)
}

// 8.1: new: a new disk, and all over it, with other rules.
func TestNew(t *testing.T) {
	by7 := func(g int) string {
		return written(7, token.Token{Kind: token.Refresh, Family: 1, Generation: g})
	}
	access7 := func(ends int) string {
		return written(7, token.Token{Kind: token.Access, Family: 1, Generation: 1, Ends: ends})
	}
	talk(t,
		"grant app ann read", r(1, 0), "tick 5", "5", "cut 0", "cut", "save", "error 14",
		"new 7 2 3 4", "new", "families", "0 1", "writes", "0", "log", "0 false",
		"grant app ann read", by7(0), "writes", "1",
		"mint "+r(1, 0), "error 5",
		"tick 2", "2", "rotate "+by7(0)+" q read", by7(1),
		"tick 1", "3", "mint "+by7(1), access7(7),
		"tick 1", "4", "mint "+by7(1), "error 10", // Life is over, Idle is not
		"new 7 2 30 4", "new", "grant a b c", by7(0), "tick 3", "3", "mint "+by7(0), "error 10", // Idle is over
	)
	m := strconv.Itoa(most)
	talk(t, "new 0 0 0 0", "new", "new "+strings.Repeat(m+" ", 4), "new")
}

// 8.1: new with rules that may not be: ErrRange, and all is as it was.
func TestNewWrong(t *testing.T) {
	over := strconv.Itoa(most + 1)
	for _, rules := range []string{"-1 0 0 0", "0 -1 0 0", "0 0 -1 0", "0 0 0 -1", over + " 0 0 0", "0 " + over + " 0 0", "0 0 " + over + " 0", "0 0 0 " + over} {
		talk(t,
			"grant app ann read", r(1, 0), "tick 2", "2", "cut 0", "cut", "save", "error 14",
			"new "+rules, "error 2",
			"families", "2 2, 1 app ann read 0 0 0 _", "writes", "2", "log", "2 true", "save", "error 6",
			"open", "open", "mint "+r(1, 0), a(1, 0, 7),
		)
	}
}

// 8.1: open, cut, save, log, writes: the power, and what outlives it.
func TestPower(t *testing.T) {
	talk(t,
		"open", "open", "writes", "0", "log", "0 false",
		"grant app ann read", r(1, 0), "writes", "1", "log", "1 false",
		"cut 1", "cut", "tick 2", "2", "log", "2 false", "writes", "2",
		"tick 3", "error 14", "log", "2 true", "writes", "2", "families", "2 2, 1 app ann read 0 0 0 _",
		"tick 3", "error 6", "save", "error 6", "kill 1", "error 6", "grant app bob read", "error 6",
		"mint "+r(1, 0), a(1, 0, 7), // reads go on
		"cut -1", "cut", "tick 3", "error 6", "log", "2 true", // the power alone isn't enough
		"open", "open", "log", "2 false", "families", "2 2, 1 app ann read 0 0 0 _", "tick 3", "5",
		"save", "save", "writes", "5", "log", "0 false",
		"cut 1", "cut", "save", "error 14", "writes", "6", "log", "0 true",
		"open", "open", "writes", "6", "log", "0 false", "families", "5 2, 1 app ann read 0 0 0 _",
		"save", "save", "writes", "8",
		"cut 0", "cut", "writes", "8", "open", "open", "tick 0", "5", "log", "1 false", // open lets the power be on
		"cut 2", "cut", "cut 1", "cut", "tick 1", "6", "tick 1", "error 14",
	)
}

// 8.1: open: the rules that new told stay.
func TestOpenKeepsRules(t *testing.T) {
	by9 := written(9, token.Token{Kind: token.Refresh, Family: 1})
	access9 := written(9, token.Token{Kind: token.Access, Family: 1, Ends: 8})
	talk(t,
		"new 9 1 2 8", "new", "grant app ann read", by9, "cut 0", "cut", "tick 1", "error 14", "open", "open",
		"token r 1 0 0", by9, "mint "+by9, access9, "tick 2", "2", "mint "+by9, "error 10",
	)
}

// 8.1: an Add to a full log saves first.
func TestFullLog(t *testing.T) {
	talk(t, join(
		[]string{"grant app ann read", r(1, 0)},
		repeat(api.LogBlocks-1, "tick 0", "0"),
		[]string{"log", "16 false", "writes", "16", "tick 1", "1", "log", "1 false", "writes", "19"},
		[]string{"open", "open", "log", "1 false", "families", "1 2, 1 app ann read 0 0 0 _"},
	)...)
}

// 8.1: grant: the token, or Grant's errors.
func TestGrant(t *testing.T) {
	name20, name21 := strings.Repeat("a", 20), strings.Repeat("a", 21)
	talk(t,
		"grant app ann write+read+write", r(1, 0), "families", "0 2, 1 app ann read+write 0 0 0 _",
		"grant "+name20+" - _", r(2, 0), "families", "0 3, 1 app ann read+write 0 0 0 _, 2 "+name20+" - _ 0 0 0 _",
		"grant App ann read", "error 1", "grant app Ann read", "error 1", "grant _ ann read", "error 1", "grant app _ read", "error 1",
		"grant "+name21+" ann read", "error 1", "grant \xff ann read", "error 1",
		"grant app ann Read", "error 3", "grant app ann read+", "error 3", "grant app ann +", "error 3", "grant app ann __", "error 3", "grant app ann read+_", "error 3",
		"grant app ann a+b+c+d+e+f", "error 4", "grant app ann aaaaaaaaa", "error 4",
		"families", "0 3, 1 app ann read+write 0 0 0 _, 2 "+name20+" - _ 0 0 0 _", "writes", "2",
	)
	var full []string
	for id := range api.MaxFamilies {
		full = append(full, "grant app ann _", r(id+1, 0))
	}
	talk(t, join(full, []string{"grant app ann _", "error 12", "kill 3", "kill", "grant app ann _", "error 12", "sweep", "3", "grant app ann _", r(21, 0)})...)
}

// 8.1: rotate: the token, or Rotate's errors; what it changes with ErrSpoilt is changed.
func TestRotate(t *testing.T) {
	talk(t,
		"grant app ann write+read", r(1, 0), "tick 3", "3",
		"rotate "+r(1, 0)+" q1 read", r(1, 1), "families", "3 2, 1 app ann read 1 0 3 q1",
		"rotate "+r(1, 0)+" q1 read", r(1, 1), "rotate "+r(1, 0)+" q1 Q", r(1, 1), "writes", "3",
		"rotate "+r(1, 1)+" q2 write", "error 13", "rotate "+r(1, 1)+" q2 Q", "error 3", "rotate "+r(1, 1)+" q2 aaaaaaaaa", "error 4",
		"rotate "+r(1, 1)+" _ read", "error 1", "rotate "+r(1, 1)+" Q read", "error 1",
		"rotate x q2 read", "error 3", "rotate _ q2 read", "error 3", "rotate r.1.1.0000000000000000 q2 read", "error 5",
		"rotate "+a(1, 1, 9)+" q2 read", "error 1", "rotate "+r(2, 0)+" q2 read", "error 7", "rotate "+r(1, 2)+" q2 read", "error 2",
		"families", "3 2, 1 app ann read 1 0 3 q1", "writes", "3",
		"rotate "+r(1, 1)+" q2 _", r(1, 2), "families", "3 2, 1 app ann _ 2 0 3 q2",
		"rotate "+r(1, 0)+" q1 read", "error 15", "families", "3 2, 1 app ann _ 2 0 3 q2 dead", "writes", "5",
		"rotate "+r(1, 0)+" q1 read", "error 6", "rotate "+r(1, 2)+" q3 _", "error 6",
		"open", "open", "families", "3 2, 1 app ann _ 2 0 3 q2 dead",
	)
	talk(t, "grant app ann read", r(1, 0), "rotate "+r(1, 0)+" one read", r(1, 1), "rotate "+r(1, 0)+" two read", "error 15", "mint "+r(1, 1), "error 6")
	// Without power the family can't be dead: the store's error, and no other.
	talk(t, "grant app ann read", r(1, 0), "rotate "+r(1, 0)+" one read", r(1, 1), "cut 0", "cut", "rotate "+r(1, 0)+" two read", "error 14", "open", "open", "mint "+r(1, 1), a(1, 1, 5))
}

// 8.1: mint and show: a token, and a family; or Mint's and Show's errors.
func TestMintAndShow(t *testing.T) {
	talk(t,
		"grant app ann write+read", r(1, 0), "tick 3", "3",
		"mint "+r(1, 0), a(1, 0, 8), "show "+a(1, 0, 8), "1 app ann read+write 0 0 0 _",
		"rotate "+r(1, 0)+" q1 _", r(1, 1), "show "+a(1, 0, 8), "1 app ann _ 1 0 3 q1",
		"mint "+r(1, 0), "error 8", "mint "+r(1, 2), "error 2", "mint "+a(1, 1, 8), "error 1", "mint x", "error 3", "mint r.1.1.0000000000000000", "error 5", "mint "+r(2, 0), "error 7",
		"show "+a(1, 2, 8), "error 2", "show "+r(1, 1), "error 1", "show _", "error 3", "show a.1.0.9."+mac.Tag(2, "a.1.0.9"), "error 5", "show "+a(2, 0, 8), "error 7",
		"tick 5", "8", "show "+a(1, 0, 8), "1 app ann _ 1 0 3 q1", "tick 1", "9", "show "+a(1, 0, 8), "error 10", "show "+a(1, 0, 9), "1 app ann _ 1 0 3 q1",
		"kill 1", "kill", "mint "+r(1, 1), "error 6", "show "+a(1, 0, 9), "error 6",
	)
}

// 8.1: kill, tick and sweep.
func TestKillTickSweep(t *testing.T) {
	m := strconv.Itoa(most)
	talk(t,
		"sweep", "error 8", "kill 1", "error 7",
		"grant app ann read", r(1, 0), "grant app bob _", r(2, 0), "grant app cy read", r(3, 0), "sweep", "error 8",
		"kill 3", "kill", "kill 3", "error 6", "kill 2", "kill", "families", "0 4, 1 app ann read 0 0 0 _, 2 app bob _ 0 0 0 _ dead, 3 app cy read 0 0 0 _ dead",
		"sweep", "2", "families", "0 4, 1 app ann read 0 0 0 _, 3 app cy read 0 0 0 _ dead", "kill 2", "error 7",
		"tick 20", "20", "sweep", "3", "sweep", "error 8", "tick 1", "21", "sweep", "1", "families", "21 4",
		"tick 0", "21", "tick -1", "error 2", "tick "+strconv.Itoa(most+1), "error 2", "families", "21 4",
		"tick "+m, m, "tick 1", m, "families", m+" 4",
	)
}

// 8.1: least, tag, token and help: nothing hangs on them.
func TestPlainLines(t *testing.T) {
	talk(t,
		"least b+a+b", "a+b", "least _", "_", "least read", "read", "least A", "error 3", "least a+", "error 3", "least __", "error 3", "least a+b+c+d+e+f", "error 4", "least aaaaaaaaa", "error 4",
		"tag 7 abc", mac.Tag(7, "abc"), "tag -7 abc", mac.Tag(-7, "abc"), "tag 7 _", mac.Tag(7, "_"), "tag 7 é", mac.Tag(7, "é"),
		"token r 3 0 0", "r.3.0.d7e1371330f46834", "token a 3 0 5", "a.3.0.5.c431a2be73ac1a8b", "token a 0 0 0", a(0, 0, 0),
		"token r 1 0 1", "error 1", "token r -1 0 0", "error 1", "token a 1 -1 0", "error 1", "token a 1 0 -1", "error 1", "token a 1 0 "+strconv.Itoa(most+1), "error 1",
		"token x 1 0 0", "error 3", "token R 1 0 0", "error 3", "token A 1 0 0", "error 3", "token ra 1 0 0", "error 3", "token _ 1 0 0", "error 3", "token 1 1 0 0", "error 3", "token x -1 0 0", "error 3",
		"help", helpLine,
		"families", "0 1", "writes", "0",
	)
	by5 := written(5, token.Token{Kind: token.Access, Family: 1, Generation: 2, Ends: 3})
	talk(t, "new 5 0 0 0", "new", "token a 1 2 3", by5, "new -1 0 0 0", "error 2", "token a 1 2 3", by5)
}

// 8.1, P4: of two sessions none knows of the other.
func TestSessionsAreApart(t *testing.T) {
	text := "new 3 1 1 1\ngrant app ann read\ntick 3\ncut 0\nsave\nfamilies\nlog\nwrites"
	first := desk.Session(text)
	wantSession(t, text, first)
	wantSession(t, "families\nlog\nwrites\ntoken r 1 0 0", "0 1\n0 false\n0\n"+r(1, 0)+"\n")
}
