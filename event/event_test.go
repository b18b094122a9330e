package event_test

import (
	"math"
	"slices"
	"strconv"
	"strings"
	"testing"

	"rotor/api"
	"rotor/event"
	"rotor/plain"
)

const most = api.MaxNumber

// name20 is as long a name as may be, of both ends of its letters.
const name20 = "az09-bcdefghijklmn--"

// scope44 is as long a scope as may be.
const scope44 = "aaaaaaaa+bbbbbbbb+cccccccc+dddddddd+zzzzzzzz"

// written are events, and their lines.
var written = []struct {
	e    event.Event
	line string
}{
	{put(api.Family{Id: 3, Client: "app", Subject: "ann", Scope: "read"}), "p 3 app ann read 0 0 0 _ 0"}, // the document's example
	{put(api.Family{Id: 3, Client: "app", Subject: "ann", Scope: "read", Dead: true}), "p 3 app ann read 0 0 0 _ 1"},
	{put(api.Family{Client: "a", Subject: "b"}), "p 0 a b _ 0 0 0 _ 0"},
	{put(api.Family{Id: 1, Client: "x-1", Subject: "bob", Scope: "a+b", Generation: 2, Made: 3, Used: 4, Request: "q7"}), "p 1 x-1 bob a+b 2 3 4 q7 0"},
	{put(api.Family{Id: 10, Client: "-", Subject: "0", Scope: "p", Generation: 20, Made: 30, Used: 40, Request: "1", Dead: true}), "p 10 - 0 p 20 30 40 1 1"},
	{put(api.Family{Id: 1, Client: "p", Subject: "d", Scope: "c", Request: "-"}), "p 1 p d c 0 0 0 - 0"},
	{put(api.Family{Id: most, Client: name20, Subject: name20, Scope: scope44, Generation: most, Made: most, Used: most, Request: name20, Dead: true}),
		"p 1099511627776 " + name20 + " " + name20 + " " + scope44 + " 1099511627776 1099511627776 1099511627776 " + name20 + " 1"},
	{event.Event{Kind: event.Drop}, "d 0"},
	{event.Event{Kind: event.Drop, Id: 12}, "d 12"},
	{event.Event{Kind: event.Drop, Id: most}, "d 1099511627776"},
	{event.Event{Kind: event.Clock}, "c 0"},
	{event.Event{Kind: event.Clock, Time: 99}, "c 99"},
	{event.Event{Kind: event.Clock, Time: most}, "c 1099511627776"},
}

// beyond are numbers that are not from 0 to MaxNumber.
var beyond = []int{-1, -2, most + 1, math.MaxInt, math.MinInt}

// noNames are texts, none empty, that are no names.
var noNames = []string{"_", " ", "A", "Ann", "a b", "a_b", "a+b", "a.b", "a\n", "\x00", "é", "a\xff", name20 + "a", strings.Repeat("a", 1000)}

// noScopes are texts that are no scope in its least form.
var noScopes = []string{"b+a", "a+a", "a+b+a", "ab+a", "a+", "+a", "+", "a++b", "A", "a b", "_", "1", "a-b", "a,b", "\n", "aaaaaaaaa", "a+b+c+d+e+f", scope44 + "+z", scope44 + "z"}

func put(f api.Family) event.Event { return event.Event{Kind: event.Put, Family: f} }

func dropped(id int) event.Event { return event.Event{Kind: event.Drop, Id: id} }

func clock(n int) event.Event { return event.Event{Kind: event.Clock, Time: n} }

// fam is a family of a number, told apart from others of that number by its generation.
func fam(id, generation int) api.Family {
	return api.Family{Id: id, Client: "app", Subject: "ann", Scope: "read", Generation: generation}
}

// fams are families of some numbers, of generation 0.
func fams(ids ...int) []api.Family {
	var l []api.Family
	for _, id := range ids {
		l = append(l, fam(id, 0))
	}
	return l
}

// wantErr holds an error against the Errno that it is to be, without a place.
func wantErr(t *testing.T, what string, err error, want api.Errno) {
	t.Helper()
	if got, bare := plain.Bare(err); got != want || !bare {
		t.Errorf("%.200s: error %d, without a place %v; want error %d", what, got, bare, want)
	}
}

// wantWrite holds what Write answers against the line, or the error without one, that it is to be.
func wantWrite(t *testing.T, e event.Event, want string, no api.Errno) {
	t.Helper()
	got, err := event.Write(e)
	wantErr(t, "Write", err, no)
	if got != want {
		t.Errorf("Write of %.300v is %q; want %q", e, got, want)
	}
}

// wantRead holds what Read answers against the event, or the error without one, that it is to be.
func wantRead(t *testing.T, line string, want event.Event, no api.Errno) {
	t.Helper()
	got, err := event.Read(line)
	wantErr(t, "Read of "+strconv.Quote(line), err, no)
	if got != want {
		t.Errorf("Read of %.300q is %v; want %v", line, got, want)
	}
}

// wantNoLine holds that a text is no event's line.
func wantNoLine(t *testing.T, line string) {
	t.Helper()
	wantRead(t, line, event.Event{}, api.ErrForm)
}

// wantState holds what Apply answers against the state that it is to be.
func wantState(t *testing.T, s api.State, e event.Event, want api.State) {
	t.Helper()
	if got := event.Apply(s, e); !plain.Same(got, want) {
		t.Errorf("Apply of %v to %v is %v; want %v", e, s, got, want)
	}
}

// 5.1: the kinds.
func TestKinds(t *testing.T) {
	if event.Put != 1 || event.Drop != 2 || event.Clock != 3 {
		t.Errorf("the kinds are %d, %d and %d; want 1, 2 and 3", event.Put, event.Drop, event.Clock)
	}
}

// 5.1: names, and texts that are none.
func TestName(t *testing.T) {
	for _, s := range []string{"a", "z", "0", "9", "-", "--", "-a", "a-", "app", "x-1", "007", name20, strings.Repeat("-", 20), strings.Repeat("9", 20)} {
		if !event.Name(s) {
			t.Errorf("%q is no name", s)
		}
	}
	for _, s := range append(noNames, "", strings.Repeat("-", 21), strings.Repeat("a", 1<<20)) {
		if event.Name(s) {
			t.Errorf("%.200q is a name", s)
		}
	}
}

// 5.1: every length of a name, and beyond.
func TestNameLengths(t *testing.T) {
	for n := range 50 {
		want := n >= 1 && n <= 20
		if got := event.Name(strings.Repeat("n", n)); got != want {
			t.Errorf("%d letters: a name: %v; want %v", n, got, want)
		}
	}
	// Bytes are counted, and none of a letter of several bytes may stand there.
	if event.Name(strings.Repeat("é", 5)) {
		t.Error("letters of two bytes are a name")
	}
}

// 5.1: every byte, wherever it stands in a name.
func TestNameLetters(t *testing.T) {
	for b := range 256 {
		c := string([]byte{byte(b)})
		want := strings.Contains("abcdefghijklmnopqrstuvwxyz0123456789-", c)
		for _, s := range []string{c, c + "a", "a" + c, "a" + c + "a", strings.Repeat("a", 19) + c} {
			if got := event.Name(s); got != want {
				t.Errorf("%q: a name: %v; want %v", s, got, want)
			}
		}
	}
}

// 5.1: ordinary events, and those with the least and the greatest of all, are written so, and read again.
func TestWriteRead(t *testing.T) {
	for _, c := range written {
		wantWrite(t, c.e, c.line, api.OK)
		wantRead(t, c.line, c.e, api.OK)
	}
}

// 5.1: numbers of all lengths, wherever they stand.
func TestNumbers(t *testing.T) {
	for n := 1; n <= most; n *= 2 {
		i, j := strconv.Itoa(n), strconv.Itoa(n-1)
		for _, c := range []struct {
			e    event.Event
			line string
		}{
			{put(api.Family{Id: n, Client: "a", Subject: "b", Generation: n - 1, Made: n, Used: n - 1}), "p " + i + " a b _ " + j + " " + i + " " + j + " _ 0"},
			{put(api.Family{Id: n - 1, Client: "a", Subject: "b", Generation: n, Made: n - 1, Used: n}), "p " + j + " a b _ " + i + " " + j + " " + i + " _ 0"},
			{dropped(n - 1), "d " + j},
			{clock(n), "c " + i},
		} {
			wantWrite(t, c.e, c.line, api.OK)
			wantRead(t, c.line, c.e, api.OK)
		}
	}
}

// 5.1: scopes in their least form, and names, wherever they may stand.
func TestTexts(t *testing.T) {
	for _, s := range []string{"", "a", "a+b", "a+ab+b", "list+read+write", scope44} {
		f := fam(1, 2)
		f.Scope = s
		word := s
		if s == "" {
			word = "_"
		}
		wantWrite(t, put(f), "p 1 app ann "+word+" 2 0 0 _ 0", api.OK)
		wantRead(t, "p 1 app ann "+word+" 2 0 0 _ 0", put(f), api.OK)
	}
	for _, s := range []string{"a", "-", "0", name20} {
		f := fam(1, 2)
		f.Client = s
		wantRead(t, "p 1 "+s+" ann read 2 0 0 _ 0", put(f), api.OK)
		f = fam(1, 2)
		f.Subject = s
		wantRead(t, "p 1 app "+s+" read 2 0 0 _ 0", put(f), api.OK)
		f = fam(1, 2)
		f.Request = s
		wantRead(t, "p 1 app ann read 2 0 0 "+s+" 0", put(f), api.OK)
	}
}

// 5.1: kinds that are none, whatever else the event has.
func TestNoKind(t *testing.T) {
	for _, kind := range []int{0, 4, 5, -1, -2, 'p', 'd', 'c', math.MaxInt, math.MinInt} {
		for _, c := range written {
			e := c.e
			e.Kind = kind
			wantWrite(t, e, "", api.ErrArg)
		}
		wantWrite(t, event.Event{Kind: kind}, "", api.ErrArg)
	}
}

// 5.1: numbers beyond the bounds, each of them alone.
func TestNumbersBeyond(t *testing.T) {
	for _, n := range beyond {
		for i, e := range []event.Event{put(fam(1, 2)), put(fam(1, 2)), put(fam(1, 2)), put(fam(1, 2)), dropped(n), clock(n)} {
			switch i {
			case 0:
				e.Family.Id = n
			case 1:
				e.Family.Generation = n
			case 2:
				e.Family.Made = n
			case 3:
				e.Family.Used = n
			}
			wantWrite(t, e, "", api.ErrArg)
		}
	}
}

// 5.1: texts that may not stand where they do.
func TestTextsThatMayNotBe(t *testing.T) {
	wrong := func(change func(f *api.Family)) {
		f := fam(1, 2)
		change(&f)
		wantWrite(t, put(f), "", api.ErrArg)
	}
	for _, s := range noNames {
		wrong(func(f *api.Family) { f.Client = s })
		wrong(func(f *api.Family) { f.Subject = s })
		wrong(func(f *api.Family) { f.Request = s })
	}
	wrong(func(f *api.Family) { f.Client = "" })
	wrong(func(f *api.Family) { f.Subject = "" })
	for _, s := range noScopes {
		wrong(func(f *api.Family) { f.Scope = s })
	}
	wantWrite(t, put(api.Family{}), "", api.ErrArg)
}

// 5.1: what an event's kind doesn't tell is zero, each field of it.
func TestMoreThanTheKindTells(t *testing.T) {
	for _, n := range []int{1, -1, most, math.MinInt} {
		for _, e := range []event.Event{
			{Kind: event.Put, Family: fam(1, 2), Id: n},
			{Kind: event.Put, Family: fam(1, 2), Time: n},
			{Kind: event.Drop, Id: 1, Time: n},
			{Kind: event.Drop, Time: n},
			{Kind: event.Clock, Time: 1, Id: n},
			{Kind: event.Clock, Id: n},
		} {
			wantWrite(t, e, "", api.ErrArg)
		}
	}
	for _, f := range []api.Family{
		{Id: 1}, {Client: "a"}, {Subject: "a"}, {Scope: "a"}, {Generation: 1}, {Made: 1}, {Used: 1}, {Request: "a"}, {Dead: true}, fam(1, 2), fam(0, 0),
	} {
		wantWrite(t, event.Event{Kind: event.Drop, Id: 1, Family: f}, "", api.ErrArg)
		wantWrite(t, event.Event{Kind: event.Clock, Time: 1, Family: f}, "", api.ErrArg)
	}
}

// 5.1: lines with too few words, too many, or others.
func TestNoLines(t *testing.T) {
	for _, s := range []string{
		"", " ", "  ", "p", "d", "c", "p ", "d ", "c ", "_", "0", "1", "x 1", "P 3 app ann read 0 0 0 _ 0", "D 1", "C 1", "pp 1", "dd 1", "1 1", "_ 1", "pd 1",
		"p 1", "d 1 2", "c 1 2", "d 1 0", "d 1 _", "c 1 a b _ 0 0 0 _ 0", "d 1 a b _ 0 0 0 _ 0",
		"p 3 app ann read 0 0 0 _", "p 3 app ann read 0 0 0 0", "p 3 app ann read 0 0 _ 0", "p 3 app ann 0 0 0 _ 0", "3 app ann read 0 0 0 _ 0",
		"p 3 app ann read 0 0 0 _ 0 0", "p 3 app ann read 0 0 0 _ 0 _", "p p 3 app ann read 0 0 0 _ 0", "p 3 app ann read 0 0 0 0 _ 0",
		"p 3 app ann read 0 0 0 _ 0d 1", "p 3 app ann read 0 0 0 _ 0 d 1", "d 1\nd 1", "d 1 d 1",
		"p 3 app ann read 0 0 0 _ 2", "p 3 app ann read 0 0 0 _ 00", "p 3 app ann read 0 0 0 _ 01", "p 3 app ann read 0 0 0 _ 10", "p 3 app ann read 0 0 0 _ 11",
		"p 3 app ann read 0 0 0 _ _", "p 3 app ann read 0 0 0 _ -1", "p 3 app ann read 0 0 0 _ true", "p 3 app ann read 0 0 0 _ dead",
		"p app ann read 3 0 0 0 _ 0", "p 3 _ ann read 0 0 0 _ 0", "p 3 app _ read 0 0 0 _ 0", "p _ app ann read 0 0 0 _ 0", "p 3 app ann read _ 0 0 _ 0", "p 3 app ann read 0 _ 0 _ 0", "p 3 app ann read 0 0 _ _ 0", "d _", "c _",
		"p 3 app ann read 0 0 0 __ 0", "p 3 app ann __ 0 0 0 _ 0",
	} {
		wantNoLine(t, s)
	}
}

// 5.1: one blank stands between words, and nothing else does, nor at the ends.
func TestBlanks(t *testing.T) {
	for _, c := range written {
		for _, s := range []string{
			" " + c.line, c.line + " ", c.line + "  ", "\n" + c.line, c.line + "\n", c.line + "\x00", c.line + "\r", "\t" + c.line,
			strings.ReplaceAll(c.line, " ", "  "), strings.ReplaceAll(c.line, " ", "\t"), strings.ReplaceAll(c.line, " ", "\n"),
			strings.ReplaceAll(c.line, " ", ""), strings.ReplaceAll(c.line, " ", "_"), strings.ReplaceAll(c.line, " ", "\u00a0"), strings.ReplaceAll(c.line, " ", ","),
			strings.Replace(c.line, " ", "  ", 1), strings.Replace(c.line, " ", "\t", 1),
		} {
			wantNoLine(t, s)
		}
	}
	// An empty text is a word, not none.
	wantNoLine(t, "p 1 a b  0 0 0 _ 0")
	wantNoLine(t, "p 1 a b _ 0 0 0  0")
	wantNoLine(t, "p 1  b _ 0 0 0 _ 0")
	wantNoLine(t, "p  a b _ 0 0 0 _ 0")
	wantNoLine(t, "p 1 a b _ 0 0 0 _ ")
}

// 5.1: words that are no numbers as they are written, or are beyond the bounds, wherever a number stands.
func TestNoNumbers(t *testing.T) {
	for _, w := range []string{
		"", "00", "01", "007", "+0", "+1", "-0", "-1", "1.0", "1e3", "0x1", "1_0", "a", "one", "1a", "a1", "--1", "+", "-", "_", ".", "١", "１", "1\x00", "\xff",
		"1099511627777", "9999999999999", "9223372036854775807", "9223372036854775808", "18446744073709551616", "18446744073709551617", "-9223372036854775808",
		strings.Repeat("9", 1000), strings.Repeat("0", 1000), strings.Repeat("0", 1000) + "1",
	} {
		for _, s := range []string{
			"p " + w + " app ann read 0 0 0 _ 0", "p 3 app ann read " + w + " 0 0 _ 0", "p 3 app ann read 0 " + w + " 0 _ 0", "p 3 app ann read 0 0 " + w + " _ 0", "d " + w, "c " + w,
		} {
			wantNoLine(t, s)
		}
	}
}

// 5.1: words that are no names, or no scope in its least form, where these stand.
func TestNoTexts(t *testing.T) {
	for _, w := range noNames {
		wantNoLine(t, "p 3 "+w+" ann read 0 0 0 _ 0")
		wantNoLine(t, "p 3 app "+w+" read 0 0 0 _ 0")
		if w != "_" {
			wantNoLine(t, "p 3 app ann read 0 0 0 "+w+" 0")
		}
	}
	for _, w := range noScopes {
		if w != "_" {
			wantNoLine(t, "p 3 app ann "+w+" 0 0 0 _ 0")
		}
	}
}

// 5.1: no beginning of a put is a line, nor is an end of any line.
func TestPieces(t *testing.T) {
	for _, c := range written {
		for i := range len(c.line) {
			if c.e.Kind == event.Put {
				wantNoLine(t, c.line[:i])
			}
			if i > 0 && !strings.HasPrefix(c.line[i:], "p ") && !strings.HasPrefix(c.line[i:], "d ") && !strings.HasPrefix(c.line[i:], "c ") {
				wantNoLine(t, c.line[i:])
			}
		}
	}
}

// wantItsOwn holds that a text, if it is read, is written so again, and is no other event's line.
func wantItsOwn(t *testing.T, line string, of event.Event, ofLine string) {
	t.Helper()
	e, err := event.Read(line)
	if err != nil {
		wantErr(t, "Read of "+strconv.Quote(line), err, api.ErrForm)
		if e != (event.Event{}) {
			t.Errorf("with an error Read of %q answers %v", line, e)
		}
		return
	}
	if again, err := event.Write(e); err != nil || again != line {
		t.Errorf("Read of %q is %v, of which Write tells %q, %v", line, e, again, err)
	}
	if (e == of) != (line == ofLine) {
		t.Errorf("%q and %q are read as %v and %v", line, ofLine, e, of)
	}
}

// 5.1: whatever byte is another one, is put between, or left out: a line is one event's, and an event's line one.
func TestOtherBytes(t *testing.T) {
	for _, c := range written {
		for i := range len(c.line) {
			wantItsOwn(t, c.line[:i]+c.line[i+1:], c.e, c.line)
			for b := range 256 {
				one := string([]byte{byte(b)})
				wantItsOwn(t, c.line[:i]+one+c.line[i:], c.e, c.line)
				wantItsOwn(t, c.line[:i]+one+c.line[i+1:], c.e, c.line)
			}
		}
	}
}

// P1: long texts are no lines.
func TestLongTexts(t *testing.T) {
	long := strings.Repeat("a", 1<<20)
	for _, s := range []string{
		long, strings.Repeat(" ", 1<<20), strings.Repeat("p ", 1<<20), strings.Repeat("d 1 ", 1<<18), "d " + strings.Repeat("1", 1<<20), "c " + long,
		"p 3 " + long + " ann read 0 0 0 _ 0", "p 3 app ann " + long + " 0 0 0 _ 0", "p 3 app ann " + strings.Repeat("a+", 1<<19) + "a 0 0 0 _ 0",
		"p 3 app ann read 0 0 0 " + long + " 0", "p 3 app ann read 0 0 0 _ " + long, "p 3 app ann read 0 0 0 _ 0" + strings.Repeat(" 0", 1<<19),
	} {
		wantNoLine(t, s)
	}
	f := fam(1, 2)
	f.Scope = strings.Repeat("a+", 1<<19) + "a"
	wantWrite(t, put(f), "", api.ErrArg)
}

// 5.2: a family that is put stands by its number; nothing else is another.
func TestPut(t *testing.T) {
	wantState(t, api.State{Next: 1}, put(fam(1, 0)), api.State{Next: 2, Families: fams(1)})
	wantState(t, api.State{}, put(fam(0, 0)), api.State{Next: 1, Families: fams(0)})
	old := api.State{Clock: 7, Next: 9, Families: fams(2, 4, 6)}
	wantState(t, old, put(fam(1, 0)), api.State{Clock: 7, Next: 9, Families: fams(1, 2, 4, 6)})
	wantState(t, old, put(fam(3, 0)), api.State{Clock: 7, Next: 9, Families: fams(2, 3, 4, 6)})
	wantState(t, old, put(fam(5, 0)), api.State{Clock: 7, Next: 9, Families: fams(2, 4, 5, 6)})
	wantState(t, old, put(fam(7, 0)), api.State{Clock: 7, Next: 9, Families: fams(2, 4, 6, 7)})
}

// 5.2: a family that is put stands in the place of that of its number, wholly.
func TestPutInThePlace(t *testing.T) {
	for at, id := range []int{2, 4, 6} {
		f := api.Family{Id: id, Client: "x", Subject: "y", Generation: 5, Made: 6, Used: 7, Request: "q", Dead: true}
		want := fams(2, 4, 6)
		want[at] = f
		wantState(t, api.State{Clock: 7, Next: 9, Families: fams(2, 4, 6)}, put(f), api.State{Clock: 7, Next: 9, Families: want})
	}
}

// 5.2: Next is one above the number, if that is more; never less than it was.
func TestNext(t *testing.T) {
	for _, c := range []struct{ id, before, behind int }{
		{4, 0, 5}, {4, 1, 5}, {4, 3, 5}, {4, 4, 5}, {4, 5, 5}, {4, 6, 6}, {4, most, most},
		{0, 0, 1}, {0, 1, 1}, {0, 2, 2}, {most, 1, most + 1}, {most, most, most + 1}, {most, most + 1, most + 1}, {most - 1, 1, most},
	} {
		wantState(t, api.State{Next: c.before}, put(fam(c.id, 0)), api.State{Next: c.behind, Families: fams(c.id)})
		wantState(t, api.State{Next: c.before, Families: fams(c.id)}, put(fam(c.id, 1)), api.State{Next: c.behind, Families: []api.Family{fam(c.id, 1)}})
	}
}

// 5.2: a family that is dropped is there no more, if it was; its number isn't given again.
func TestDrop(t *testing.T) {
	old := api.State{Clock: 7, Next: 7, Families: fams(0, 2, 4, 6)}
	for _, c := range []struct {
		id   int
		left []int
	}{
		{0, []int{2, 4, 6}}, {2, []int{0, 4, 6}}, {4, []int{0, 2, 6}}, {6, []int{0, 2, 4}},
		{1, []int{0, 2, 4, 6}}, {3, []int{0, 2, 4, 6}}, {5, []int{0, 2, 4, 6}}, {7, []int{0, 2, 4, 6}}, {most, []int{0, 2, 4, 6}},
	} {
		wantState(t, old, dropped(c.id), api.State{Clock: 7, Next: 7, Families: fams(c.left...)})
	}
	wantState(t, api.State{Next: 4, Families: fams(3)}, dropped(3), api.State{Next: 4})
	wantState(t, api.State{Clock: 2, Next: 4}, dropped(3), api.State{Clock: 2, Next: 4})
}

// 5.2: the Clock is what is told, less than before, too; nothing else is another.
func TestClock(t *testing.T) {
	for _, n := range []int{0, 1, 6, 7, 8, most} {
		wantState(t, api.State{Clock: 7, Next: 9, Families: fams(2, 4)}, clock(n), api.State{Clock: n, Next: 9, Families: fams(2, 4)})
		wantState(t, api.State{Next: 1}, clock(n), api.State{Clock: n, Next: 1})
	}
}

// byMap is what Apply is to answer, by a map of families.
func byMap(of map[int]api.Family, clock, next int, e event.Event) (int, int) {
	switch e.Kind {
	case event.Put:
		of[e.Family.Id] = e.Family
		next = max(next, e.Family.Id+1)
	case event.Drop:
		delete(of, e.Id)
	case event.Clock:
		clock = e.Time
	}
	return clock, next
}

// 5.2: many events, one behind the other.
func TestManyEvents(t *testing.T) {
	die := uint64(1)
	roll := func(most int) int {
		die = die*6364136223846793005 + 1442695040888963407
		return int(die >> 33 % uint64(most))
	}
	for range 50 {
		s, of := api.State{Next: 1}, map[int]api.Family{}
		for range 200 {
			e := []event.Event{put(fam(roll(20), roll(1000))), dropped(roll(20)), clock(roll(1000))}[roll(3)]
			want := api.State{}
			want.Clock, want.Next = byMap(of, s.Clock, s.Next, e)
			for id := range 20 {
				if f, there := of[id]; there {
					want.Families = append(want.Families, f)
				}
			}
			wantState(t, s, e, want)
			s = event.Apply(s, e)
		}
	}
}

// allOf is an event of each kind, of each way that it may change a list of the families 2, 4 and 6.
func allOf() []event.Event {
	l := []event.Event{clock(3)}
	for id := range 8 {
		l = append(l, put(fam(id, 5)), dropped(id))
	}
	return l
}

// P4: no list that is handed in is written into, nor what stands behind its length.
func TestHandedInStays(t *testing.T) {
	for _, e := range allOf() {
		whole := fams(2, 4, 6, 100, 101, 102)
		before := slices.Clone(whole)
		got := event.Apply(api.State{Next: 7, Families: whole[:3]}, e)
		if !slices.Equal(whole, before) {
			t.Errorf("Apply of %v writes into what is handed in: %v", e, whole)
		}
		for _, f := range got.Families {
			if f.Id >= 100 {
				t.Errorf("Apply of %v answers what stands behind the list: %v", e, got)
			}
		}
	}
}

// P4: what is answered is the caller's: it isn't what was handed in, nor what is answered once more.
func TestFreshLists(t *testing.T) {
	for _, e := range allOf() {
		in := api.State{Next: 7, Families: fams(2, 4, 6)}
		first, second := event.Apply(in, e), event.Apply(in, e)
		behind := event.Apply(first, clock(1))
		want, wantBehind := slices.Clone(second.Families), slices.Clone(behind.Families)
		for i := range first.Families {
			first.Families[i] = api.Family{Id: -1}
		}
		for i := range in.Families {
			in.Families[i] = api.Family{Id: -2}
		}
		_ = append(first.Families, api.Family{Id: -3})
		_ = append(in.Families[:0], api.Family{Id: -4})
		if !slices.Equal(second.Families, want) || !slices.Equal(behind.Families, wantBehind) {
			t.Errorf("Apply of %v answers lists that share memory: %v, %v", e, second, behind)
		}
	}
}

// P1: Apply ends, and doesn't panic, whatever it is given.
func TestWhateverIsGiven(t *testing.T) {
	states := []api.State{
		{}, {Clock: -1, Next: -5}, {Next: math.MaxInt}, {Next: math.MinInt},
		{Families: fams(6, 4, 2)}, {Families: fams(3, 3, 3)}, {Families: fams(-1, math.MinInt, math.MaxInt)}, {Families: make([]api.Family, 1000)},
	}
	var events []event.Event
	for _, kind := range []int{0, 1, 2, 3, 4, -1, math.MaxInt, math.MinInt} {
		for _, n := range []int{0, 3, -1, most + 1, math.MaxInt, math.MinInt} {
			events = append(events, event.Event{Kind: kind, Id: n, Time: n, Family: fam(n, n)})
		}
	}
	for _, s := range states {
		for _, e := range events {
			before := slices.Clone(s.Families)
			event.Apply(s, e)
			if !slices.Equal(s.Families, before) {
				t.Errorf("Apply of %v writes into what is handed in: %v", e, s.Families)
			}
		}
	}
}
