package service_test

import (
	"testing"

	"rotor/api"
	"rotor/disk"
	"rotor/event"
	"rotor/plain"
	"rotor/service"
	"rotor/store"
	"rotor/token"
)

const most = api.MaxNumber

const name20 = "az09-bcdefghijklmn--"

const scope44 = "aaaaaaaa+bbbbbbbb+cccccccc+dddddddd+zzzzzzzz"

// rules are those of most tests.
var rules = api.Rules{Key: 7, Idle: 20, Life: 100, Access: 5}

// fixture is a service, and what lies under it.
type fixture struct {
	t     *testing.T
	disk  *disk.Disk
	store *store.Store
	s     *service.Service
	rules api.Rules
}

// over is a service over a new disk, with events on it that no service may have made.
func over(t *testing.T, r api.Rules, events ...event.Event) *fixture {
	t.Helper()
	x := &fixture{t: t, disk: &disk.Disk{}, rules: r}
	x.open()
	for _, e := range events {
		wantErr(t, "Add", x.store.Add(e), api.OK)
	}
	return x
}

// open lets the power be on, and opens the disk anew.
func (x *fixture) open() {
	x.t.Helper()
	x.disk.Cut(-1)
	st, err := store.Open(x.disk)
	wantErr(x.t, "Open", err, api.OK)
	s, err := service.New(st, x.rules)
	wantErr(x.t, "New", err, api.OK)
	if s == nil {
		x.t.Fatal("New: no service")
	}
	x.store, x.s = st, s
}

// down lets the power go off, so that the store knows it.
func (x *fixture) down() {
	x.t.Helper()
	x.disk.Cut(0)
	wantErr(x.t, "Save without power", x.store.Save(), api.ErrDevice)
}

// refresh is the refresh token of a family and a generation, by the fixture's key.
func (x *fixture) refresh(id, generation int) string {
	x.t.Helper()
	return written(x.t, x.rules.Key, token.Token{Kind: token.Refresh, Family: id, Generation: generation})
}

// access is the access token of a family and a generation, by the fixture's key.
func (x *fixture) access(id, generation, ends int) string {
	x.t.Helper()
	return written(x.t, x.rules.Key, token.Token{Kind: token.Access, Family: id, Generation: generation, Ends: ends})
}

func written(t *testing.T, key int, k token.Token) string {
	t.Helper()
	text, err := token.Write(key, k)
	wantErr(t, "token.Write", err, api.OK)
	return text
}

// events checks that a call adds so many events to the store, by a Write each.
func (x *fixture) events(n int, call func()) {
	x.t.Helper()
	log, writes := x.store.Log(), x.disk.Writes()
	call()
	if x.store.Log() != log+n || x.disk.Writes() != writes+n {
		x.t.Errorf("%d events, %d Writes; want %d", x.store.Log()-log, x.disk.Writes()-writes, n)
	}
}

// still checks that a call changes nothing, neither of the state nor on the disk.
func (x *fixture) still(call func()) {
	x.t.Helper()
	state := x.s.State()
	x.events(0, call)
	x.want(state)
}

// want holds the service's state, and that of the disk opened anew, against one.
func (x *fixture) want(state api.State) {
	x.t.Helper()
	again, err := store.Open(x.disk)
	wantErr(x.t, "Open", err, api.OK)
	for _, got := range []api.State{x.s.State(), x.store.State(), again.State()} {
		if !plain.Same(got, state) {
			x.t.Errorf("the state is %v; want %v", got, state)
		}
	}
}

// gives holds what a call answers against a token's text; it is written with `x.gives("..")(x.s.Mint(text))`.
func (x *fixture) gives(want string) func(string, error) {
	return func(got string, err error) {
		x.t.Helper()
		wantErr(x.t, "for "+want, err, api.OK)
		if got != want {
			x.t.Errorf("%q is given; want %q", got, want)
		}
	}
}

// refuses holds what a call answers against an error, and nothing beside it.
func (x *fixture) refuses(want api.Errno) func(string, error) {
	return func(got string, err error) {
		x.t.Helper()
		wantErr(x.t, "a call", err, want)
		if got != "" {
			x.t.Errorf("with an error %q is given", got)
		}
	}
}

// shows holds what Show answers against a family.
func (x *fixture) shows(want api.Family) func(api.Family, error) {
	return func(got api.Family, err error) {
		x.t.Helper()
		wantErr(x.t, "Show", err, api.OK)
		if got != want {
			x.t.Errorf("%v is shown; want %v", got, want)
		}
	}
}

// hides holds what Show answers against an error, and nothing beside it.
func (x *fixture) hides(want api.Errno) func(api.Family, error) {
	return func(got api.Family, err error) {
		x.t.Helper()
		wantErr(x.t, "Show", err, want)
		if got != (api.Family{}) {
			x.t.Errorf("with an error %v is shown", got)
		}
	}
}

// does holds an error against one.
func (x *fixture) does(want api.Errno) func(error) {
	return func(err error) {
		x.t.Helper()
		wantErr(x.t, "a call", err, want)
	}
}

// sweeps holds what Sweep answers against a number and an error.
func (x *fixture) sweeps(id int, want api.Errno) func(int, error) {
	return func(got int, err error) {
		x.t.Helper()
		wantErr(x.t, "Sweep", err, want)
		if got != id {
			x.t.Errorf("Sweep answers %d; want %d", got, id)
		}
	}
}

// wantErr holds an error against the Errno that it is to be, without a place.
func wantErr(t *testing.T, what string, err error, want api.Errno) {
	t.Helper()
	if got, bare := plain.Bare(err); got != want || !bare {
		t.Errorf("%.200s: error %d, without a place %v; want error %d", what, got, bare, want)
	}
}

func put(f api.Family) event.Event { return event.Event{Kind: event.Put, Family: f} }

func clock(n int) event.Event { return event.Event{Kind: event.Clock, Time: n} }

// fam is a family for read and write, alive.
func fam(id, generation int, request string) api.Family {
	return api.Family{Id: id, Client: "app", Subject: "ann", Scope: "read+write", Generation: generation, Request: request}
}

// fams are families of the numbers from 1 to n.
func fams(n int) []event.Event {
	var l []event.Event
	for id := 1; id <= n; id++ {
		l = append(l, put(fam(id, 0, "")))
	}
	return l
}

// badNames are texts that are no names.
var badNames = []string{"", "A", "a b", "_", "a.b", "é", "\x00", name20 + "a"}

// badScopes are texts that are no scopes, with scope's errors.
var badScopes = map[string]api.Errno{
	"Read": api.ErrForm, "read+": api.ErrForm, "+": api.ErrForm, "_": api.ErrForm, "a b": api.ErrForm,
	"aaaaaaaaa": api.ErrLimit, "a+b+c+d+e+f": api.ErrLimit, "a+b+c+d+e+f+": api.ErrForm,
}

// 7.1: what New asks of a store and of rules, and in which order.
func TestNew(t *testing.T) {
	d := &disk.Disk{}
	st, _ := store.Open(d)
	for _, r := range []api.Rules{{}, rules, {Key: most, Idle: most, Life: most, Access: most}} {
		s, err := service.New(st, r)
		wantErr(t, "New", err, api.OK)
		if s == nil {
			t.Error("New: no service")
		}
	}
	for _, n := range []int{-1, most + 1, -most, 1<<63 - 1, -1 << 63} {
		for _, r := range []api.Rules{{Key: n}, {Idle: n}, {Life: n}, {Access: n}, {Key: n, Idle: n, Life: n, Access: n}} {
			s, err := service.New(st, r)
			wantErr(t, "New", err, api.ErrRange)
			if s != nil {
				t.Error("New: a service, with an error")
			}
		}
		s, err := service.New(nil, api.Rules{Key: n})
		wantErr(t, "New of nil, with a rule beyond", err, api.ErrMissing)
		if s != nil {
			t.Error("New: a service, with an error")
		}
	}
	_, err := service.New(nil, rules)
	wantErr(t, "New of nil", err, api.ErrMissing)
	if *d != (disk.Disk{}) {
		t.Error("New wrote")
	}
}

// 7.1: State is the store's, what is added by others too, and the caller's.
func TestState(t *testing.T) {
	x := over(t, rules)
	x.want(api.State{Next: 1})
	wantErr(t, "Add", x.store.Add(put(fam(4, 2, "q"))), api.OK)
	wantErr(t, "Add", x.store.Add(clock(9)), api.OK)
	want := api.State{Clock: 9, Next: 5, Families: []api.Family{fam(4, 2, "q")}}
	x.want(want)
	a := x.s.State()
	a.Families[0].Id = 77
	_ = append(a.Families[:0], fam(78, 0, ""))
	a.Clock, a.Next = 1, 2
	x.want(want)
	x.down()
	if !plain.Same(x.s.State(), want) {
		t.Error("without power the state is another one")
	}
}

// 7.1: a family is as it is granted, its token is that of its number and the generation 0, and it is one event.
func TestGrant(t *testing.T) {
	x := over(t, api.Rules{Key: 1, Idle: 20, Life: 100, Access: 5}, clock(6))
	want := api.State{Clock: 6, Next: 1}
	for i, c := range []struct{ client, subject, sc, least string }{
		{"app", "ann", "read", "read"},
		{"app", "ann", "", ""},
		{"a", "-", "write+read+write", "read+write"},
		{name20, name20, "zzzzzzzz+dddddddd+cccccccc+bbbbbbbb+aaaaaaaa", scope44},
	} {
		id := i + 1
		x.events(1, func() { x.gives(x.refresh(id, 0))(x.s.Grant(c.client, c.subject, c.sc)) })
		want.Next++
		want.Families = append(want.Families, api.Family{Id: id, Client: c.client, Subject: c.subject, Scope: c.least, Made: 6, Used: 6})
		x.want(want)
	}
	x = over(t, api.Rules{Key: 1}, put(fam(2, 0, "")))
	x.gives("r.3.0.d7e1371330f46834")(x.s.Grant("app", "ann", "read"))
}

// 7.1: what Grant refuses, and in which order.
func TestGrantErrors(t *testing.T) {
	x := over(t, rules, append(fams(api.MaxFamilies-1), put(fam(most, 0, "")))...)
	full := over(t, rules, fams(api.MaxFamilies)...)
	free := over(t, rules)
	for _, f := range []*fixture{x, full, free} {
		f.still(func() {
			for _, bad := range badNames {
				f.refuses(api.ErrArg)(f.s.Grant(bad, "ann", "read"))
				f.refuses(api.ErrArg)(f.s.Grant("app", bad, "read"))
				f.refuses(api.ErrArg)(f.s.Grant(bad, bad, "A"))
				f.refuses(api.ErrArg)(f.s.Grant("app", bad, "aaaaaaaaa"))
			}
			for sc, want := range badScopes {
				f.refuses(want)(f.s.Grant("app", "ann", sc))
			}
		})
	}
	x.still(func() { x.refuses(api.ErrLimit)(x.s.Grant("app", "ann", "read")) })
	full.still(func() { full.refuses(api.ErrFull)(full.s.Grant("app", "ann", "read")) })
	x.down()
	full.down()
	free.down()
	x.refuses(api.ErrLimit)(x.s.Grant("app", "ann", "read"))
	full.refuses(api.ErrFull)(full.s.Grant("app", "ann", "read"))
	free.refuses(api.ErrState)(free.s.Grant("app", "ann", "read"))
	free.refuses(api.ErrArg)(free.s.Grant("app", "Ann", "read"))
	free.refuses(api.ErrForm)(free.s.Grant("app", "ann", "Read"))
}

// 7.1: numbers go up to MaxNumber, and are never given twice, though families are dropped and the power goes off.
func TestGrantNumbers(t *testing.T) {
	x := over(t, rules, put(fam(most-1, 0, "")))
	x.gives(x.refresh(most, 0))(x.s.Grant("app", "ann", "read"))
	x.does(api.OK)(x.s.Kill(most))
	x.sweeps(most, api.OK)(x.s.Sweep())
	x.open()
	x.still(func() { x.refuses(api.ErrLimit)(x.s.Grant("app", "ann", "read")) })

	x = over(t, rules)
	for id := 1; id <= 70; id++ {
		x.gives(x.refresh(id, 0))(x.s.Grant("app", "ann", "read"))
		x.does(api.OK)(x.s.Kill(id))
		x.sweeps(id, api.OK)(x.s.Sweep())
		if id%7 == 0 {
			x.open()
		}
	}
	x.want(api.State{Next: 71})
}

// 7.1: MaxFamilies may be, and behind a Sweep one more.
func TestGrantFull(t *testing.T) {
	x := over(t, rules)
	for id := 1; id <= api.MaxFamilies; id++ {
		x.gives(x.refresh(id, 0))(x.s.Grant("app", "ann", "read"))
	}
	x.refuses(api.ErrFull)(x.s.Grant("app", "ann", "read"))
	x.does(api.OK)(x.s.Kill(5))
	x.refuses(api.ErrFull)(x.s.Grant("app", "ann", "read"))
	x.sweeps(5, api.OK)(x.s.Sweep())
	x.gives(x.refresh(api.MaxFamilies+1, 0))(x.s.Grant("app", "ann", "read"))
}

// 7.1: a family is old above Used and Idle, or above Made and Life; neither sum is above MaxNumber.
func TestOld(t *testing.T) {
	for _, c := range []struct {
		clock, made, used, idle, life int
		old                           bool
	}{
		{0, 0, 0, 0, 0, false},
		{1, 0, 0, 0, 9, true},
		{1, 0, 0, 9, 0, true},
		{30, 0, 10, 20, 99, false},
		{31, 0, 10, 20, 99, true},
		{110, 10, 105, 20, 100, false},
		{111, 10, 105, 20, 100, true},
		{5, 9, 9, 0, 0, false},
		{most, most - 5, most - 5, 5, 5, false},
		{most, most - 5, most - 5, 4, 5, true},
		{most, most - 5, most - 5, 5, 4, true},
		{most, most, most, most, most, false},
		{most, most - 1, most - 1, most, 2, false},
		{most, 0, 0, most, most, false},
		{most, 0, 0, most - 1, most, true},
		{most, 0, 0, most, most - 1, true},
	} {
		f := fam(1, 3, "q")
		f.Made, f.Used = c.made, c.used
		x := over(t, api.Rules{Key: 7, Idle: c.idle, Life: c.life, Access: most}, put(f), clock(c.clock))
		if c.old {
			x.still(func() {
				x.refuses(api.ErrOrder)(x.s.Mint(x.refresh(1, 3)))
				x.hides(api.ErrOrder)(x.s.Show(x.access(1, 3, most)))
				for _, generation := range []int{0, 2, 3, 4} {
					x.refuses(api.ErrOrder)(x.s.Rotate(x.refresh(1, generation), "q", "read"))
				}
			})
			x.sweeps(1, api.OK)(x.s.Sweep())
			continue
		}
		x.still(func() {
			x.gives(x.access(1, 3, most))(x.s.Mint(x.refresh(1, 3)))
			x.shows(f)(x.s.Show(x.access(1, 3, most)))
			x.sweeps(0, api.ErrNone)(x.s.Sweep())
		})
		x.gives(x.refresh(1, 4))(x.s.Rotate(x.refresh(1, 3), "q", "read"))
	}
}

// looked is a token's text that is refused when it is looked at, and the error, of a token for each kind.
type looked struct {
	text string
	kind int
	want api.Errno
}

// refusedTokens are texts that are refused when they are looked at; each but the last ones would be refused by what is told later, too.
func refusedTokens(x *fixture) []looked {
	other := func(kind, id, generation int) string {
		return written(x.t, x.rules.Key+1, token.Token{Kind: kind, Family: id, Generation: generation})
	}
	var l []looked
	for kind, text := range map[int]string{token.Refresh: x.refresh(1, 3), token.Access: x.access(1, 3, 50)} {
		l = append(l, looked{"", kind, api.ErrForm}, looked{"x", kind, api.ErrForm}, looked{text[:len(text)-1], kind, api.ErrForm},
			looked{text + "0", kind, api.ErrForm}, looked{" " + text, kind, api.ErrForm},
			looked{other(token.Refresh, 1, 3), kind, api.ErrName}, looked{other(token.Access, 1, 3), kind, api.ErrName},
			looked{other(token.Refresh, 9, 9), kind, api.ErrName})
	}
	// Of the other kind: of all families, there or not, whatever their generation.
	for _, id := range []int{0, 1, 2, 3, 4, most} {
		for _, generation := range []int{0, 2, 3, 4, most} {
			l = append(l, looked{x.access(id, generation, 50), token.Refresh, api.ErrArg}, looked{x.refresh(id, generation), token.Access, api.ErrArg})
		}
	}
	for id, want := range map[int]api.Errno{0: api.ErrMissing, 5: api.ErrMissing, most: api.ErrMissing, 2: api.ErrState, 3: api.ErrOrder, 4: api.ErrState} {
		for _, generation := range []int{0, 2, 3, 4, most} {
			l = append(l, looked{x.refresh(id, generation), token.Refresh, want},
				looked{x.access(id, generation, 50), token.Access, want}, looked{x.access(id, generation, 0), token.Access, want})
		}
	}
	for _, generation := range []int{4, 5, most} {
		l = append(l, looked{x.refresh(1, generation), token.Refresh, api.ErrRange},
			looked{x.access(1, generation, 50), token.Access, api.ErrRange}, looked{x.access(1, generation, 0), token.Access, api.ErrRange})
	}
	return l
}

// 7.2, 7.3: what a token that is looked at is refused for, in order, by Rotate, Mint and Show alike; nothing is changed by it.
func TestLookedAt(t *testing.T) {
	alive, dead, old, both := fam(1, 3, "q"), fam(2, 3, "q"), fam(3, 3, "q"), fam(4, 3, "q")
	alive.Used, dead.Used, old.Used, both.Used = 50, 50, 29, 29
	dead.Dead, both.Dead = true, true
	x := over(t, rules, put(alive), put(dead), put(old), put(both), clock(50))
	for _, off := range []bool{false, true} {
		if off {
			x.down()
		}
		x.still(func() {
			for _, c := range refusedTokens(x) {
				if c.kind == token.Access {
					x.hides(c.want)(x.s.Show(c.text))
					continue
				}
				x.refuses(c.want)(x.s.Mint(c.text))
				x.refuses(c.want)(x.s.Rotate(c.text, "q", "read"))
				x.refuses(c.want)(x.s.Rotate(c.text, "other", "A"))
				for _, bad := range badNames {
					x.refuses(api.ErrArg)(x.s.Rotate(c.text, bad, "A"))
				}
			}
		})
	}
}

// 7.2: a token that is in force is taken once, and gives the next one; it is one event.
func TestRotate(t *testing.T) {
	f := fam(1, 0, "")
	f.Scope, f.Made, f.Used = "list+read+write", 2, 3
	x := over(t, rules, put(fam(2, 5, "z")), put(f), clock(4))
	for i, c := range []struct{ request, sc, least string }{
		{"q", "write+list+read", "list+read+write"},
		{"q", "write+read+write", "read+write"}, // by the same request
		{name20, "read+write", "read+write"},
		{"-", "write", "write"},
		{"0", "", ""},
		{"q", "", ""},
	} {
		x.events(1, func() { x.gives(x.refresh(1, i+1))(x.s.Rotate(x.refresh(1, i), c.request, c.sc)) })
		f.Generation, f.Scope, f.Request, f.Used = i+1, c.least, c.request, 4+3*i
		x.want(api.State{Clock: 4 + 3*i, Next: 3, Families: []api.Family{f, fam(2, 5, "z")}})
		x.does(api.OK)(x.s.Tick(3))
	}
}

// 7.2: what Rotate refuses of the token that is in force, and in which order.
func TestRotateErrors(t *testing.T) {
	last := fam(2, most, "q")
	x := over(t, rules, put(fam(1, 3, "q")), put(last), put(api.Family{Id: 3, Client: "app", Subject: "ann"}))
	for _, off := range []bool{false, true} {
		if off {
			x.down()
		}
		x.still(func() {
			for _, text := range []string{x.refresh(1, 3), x.refresh(2, most), x.refresh(3, 0)} {
				for _, bad := range badNames {
					x.refuses(api.ErrArg)(x.s.Rotate(text, bad, "read"))
				}
				for sc, want := range badScopes {
					x.refuses(want)(x.s.Rotate(text, "q", sc))
				}
				for _, sc := range []string{"list", "list+read", "read+write+x", "rea", "reads", "list+read+write"} {
					x.refuses(api.ErrFalse)(x.s.Rotate(text, "q", sc))
				}
			}
			x.refuses(api.ErrFalse)(x.s.Rotate(x.refresh(3, 0), "q", "read"))
			for _, sc := range []string{"", "read", "write+read"} {
				x.refuses(api.ErrLimit)(x.s.Rotate(x.refresh(2, most), "q", sc))
			}
		})
	}
	x.open()
	x.gives(x.refresh(1, 4))(x.s.Rotate(x.refresh(1, 3), "q", "read"))
}

// 7.2: the generation MaxNumber is the last one; it is given, asked for again, and an elder one still spoils the family.
func TestRotateLast(t *testing.T) {
	x := over(t, rules, put(fam(1, most-1, "q")))
	x.gives(x.refresh(1, most))(x.s.Rotate(x.refresh(1, most-1), "p", "read"))
	x.still(func() {
		x.gives(x.refresh(1, most))(x.s.Rotate(x.refresh(1, most-1), "p", "write"))
		x.refuses(api.ErrLimit)(x.s.Rotate(x.refresh(1, most), "p", "read"))
	})
	x.gives(x.access(1, most, 5))(x.s.Mint(x.refresh(1, most)))
	x.refuses(api.ErrSpoilt)(x.s.Rotate(x.refresh(1, most-1), "o", "read"))
}

// 7.2: a lost answer comes again, to the same request, however often, whatever the scope is; nothing changes, and no power is needed.
func TestLostAnswer(t *testing.T) {
	x := over(t, rules)
	x.gives(x.refresh(1, 0))(x.s.Grant("app", "ann", "read+write"))
	x.gives(x.refresh(1, 1))(x.s.Rotate(x.refresh(1, 0), "a", "read+write"))
	x.does(api.OK)(x.s.Tick(20))
	again := func() {
		for _, sc := range []string{"read+write", "read", "", "list", "A", "aaaaaaaaa", "a+b+c+d+e+f"} {
			x.gives(x.refresh(1, 1))(x.s.Rotate(x.refresh(1, 0), "a", sc))
		}
	}
	x.still(again)
	x.open()
	x.still(again)
	x.down()
	x.still(again)
	x.open()
	x.gives(x.refresh(1, 2))(x.s.Rotate(x.refresh(1, 1), "b", "read"))
	x.gives(x.refresh(1, 2))(x.s.Rotate(x.refresh(1, 1), "b", "read"))
	x.does(api.OK)(x.s.Tick(21))
	x.refuses(api.ErrOrder)(x.s.Rotate(x.refresh(1, 1), "b", "read"))
}

// 7.2, 7.4: an elder token, but by the request that was answered last, lets the family be dead, by one event; from then on all its tokens are refused.
func TestSpoilt(t *testing.T) {
	for _, c := range []struct {
		generation int
		request    string
	}{
		{4, "other"}, {4, "q-"}, {4, name20}, {3, "q"}, {3, "p"}, {0, "q"}, {0, "other"},
	} {
		for _, sc := range []string{"read", "", "list", "A", "aaaaaaaaa"} {
			f := fam(1, 5, "q")
			x := over(t, rules, put(f), put(fam(2, 5, "q")))
			x.events(1, func() { x.refuses(api.ErrSpoilt)(x.s.Rotate(x.refresh(1, c.generation), c.request, sc)) })
			f.Dead = true
			want := api.State{Next: 3, Families: []api.Family{f, fam(2, 5, "q")}}
			x.want(want)
			x.still(func() { x.allRefused(1, 6, api.ErrState) })
			x.open()
			x.want(want)
			x.allRefused(1, 6, api.ErrState)
			x.sweeps(1, api.OK)(x.s.Sweep())
			x.allRefused(1, 6, api.ErrMissing)
			x.gives(x.refresh(2, 6))(x.s.Rotate(x.refresh(2, 5), "q", "read"))
		}
	}
}

// allRefused checks that all tokens of a family, up to a generation, are refused.
func (x *fixture) allRefused(id, generations int, want api.Errno) {
	x.t.Helper()
	for generation := range generations {
		for _, request := range []string{"q", "other"} {
			x.refuses(want)(x.s.Rotate(x.refresh(id, generation), request, "read"))
		}
		x.refuses(want)(x.s.Mint(x.refresh(id, generation)))
		x.hides(want)(x.s.Show(x.access(id, generation, most)))
	}
}

// 7.2: a family that was not asked for by anybody yet has no request to be answered again; one of the generation 0 has no elder token.
func TestNoRequestYet(t *testing.T) {
	x := over(t, rules, put(fam(1, 1, "")), put(fam(2, 0, "q")))
	x.refuses(api.ErrArg)(x.s.Rotate(x.refresh(1, 0), "", "read"))
	x.refuses(api.ErrSpoilt)(x.s.Rotate(x.refresh(1, 0), "q", "read"))
	x.gives(x.refresh(2, 1))(x.s.Rotate(x.refresh(2, 0), "q", "read"))
}

// 7.2: when what is to be dead can't be put, that is told, and nothing is changed: the family is spoilt when its token is shown again.
func TestSpoiltWithoutPower(t *testing.T) {
	x := over(t, rules, put(fam(1, 5, "q")))
	x.disk.Cut(0)
	x.still(func() { x.refuses(api.ErrDevice)(x.s.Rotate(x.refresh(1, 3), "q", "read")) })
	x.still(func() { x.refuses(api.ErrState)(x.s.Rotate(x.refresh(1, 3), "q", "read")) })
	x.gives(x.access(1, 5, 5))(x.s.Mint(x.refresh(1, 5)))
	x.open()
	x.refuses(api.ErrSpoilt)(x.s.Rotate(x.refresh(1, 3), "q", "read"))
	x.allRefused(1, 6, api.ErrState)
}

// 7.3: an access token ends at the Clock and Access; the sum is MaxNumber at most; nothing changes, and no power is needed.
func TestMint(t *testing.T) {
	for _, c := range []struct{ clock, access, ends int }{
		{0, 0, 0}, {0, 5, 5}, {9, 0, 9}, {9, 5, 14}, {0, most, most}, {1, most, most},
		{most - 5, 5, most}, {most - 5, 4, most - 1}, {most, 1, most}, {most, most, most},
	} {
		r := api.Rules{Key: 0, Idle: most, Life: most, Access: c.access}
		x := over(t, r, put(fam(1, 3, "q")), clock(c.clock))
		for _, off := range []bool{false, true} {
			if off {
				x.down()
			}
			x.still(func() {
				x.gives(x.access(1, 3, c.ends))(x.s.Mint(x.refresh(1, 3)))
				for generation := range 3 {
					x.refuses(api.ErrNone)(x.s.Mint(x.refresh(1, generation)))
				}
				for _, generation := range []int{4, most} {
					x.refuses(api.ErrRange)(x.s.Mint(x.refresh(1, generation)))
				}
			})
		}
	}
}

// 7.3: an access token of whatever generation is shown until the Clock is above its end.
func TestShow(t *testing.T) {
	f := fam(1, 3, "q")
	f.Made, f.Used = 7, 8
	x := over(t, rules, put(fam(0, 9, "z")), put(f), clock(10))
	for _, off := range []bool{false, true} {
		if off {
			x.down()
		}
		x.still(func() {
			for generation := range 4 {
				for _, ends := range []int{10, 11, most} {
					x.shows(f)(x.s.Show(x.access(1, generation, ends)))
				}
				for _, ends := range []int{0, 9} {
					x.hides(api.ErrOrder)(x.s.Show(x.access(1, generation, ends)))
				}
			}
			for _, ends := range []int{0, 9, 10, most} {
				x.hides(api.ErrRange)(x.s.Show(x.access(1, 4, ends)))
				x.hides(api.ErrRange)(x.s.Show(x.access(1, most, ends)))
			}
			x.shows(fam(0, 9, "z"))(x.s.Show(x.access(0, 9, 10)))
		})
	}
}

// 7.3: what is shown is the family as it is now, not as it was when the token was minted.
func TestShowLater(t *testing.T) {
	x := over(t, rules)
	x.gives(x.refresh(1, 0))(x.s.Grant("app", "ann", "read+write"))
	a, err := x.s.Mint(x.refresh(1, 0))
	wantErr(t, "Mint", err, api.OK)
	x.does(api.OK)(x.s.Tick(5))
	x.gives(x.refresh(1, 1))(x.s.Rotate(x.refresh(1, 0), "q", "read"))
	x.shows(api.Family{Id: 1, Client: "app", Subject: "ann", Scope: "read", Generation: 1, Used: 5, Request: "q"})(x.s.Show(a))
	x.does(api.OK)(x.s.Tick(1))
	x.hides(api.ErrOrder)(x.s.Show(a))
}

// 7.3: Kill lets a family be dead, by one event, an old one too; all else of it stays.
func TestKill(t *testing.T) {
	old, f := fam(1, 3, "q"), fam(2, 4, "p")
	f.Made, f.Used = 99, 99
	x := over(t, rules, put(old), put(f), put(fam(0, 0, "")), clock(100))
	x.still(func() {
		for _, id := range []int{3, -1, most, most + 1, 1<<63 - 1, -1 << 63} {
			x.does(api.ErrMissing)(x.s.Kill(id))
		}
	})
	for _, id := range []int{1, 2, 0} {
		x.events(1, func() { x.does(api.OK)(x.s.Kill(id)) })
		x.still(func() { x.does(api.ErrState)(x.s.Kill(id)) })
	}
	zero := fam(0, 0, "")
	zero.Dead, old.Dead, f.Dead = true, true, true
	x.want(api.State{Clock: 100, Next: 3, Families: []api.Family{zero, old, f}})
	x.allRefused(2, 6, api.ErrState)
	x.down()
	x.does(api.ErrState)(x.s.Kill(1))
	x.does(api.ErrMissing)(x.s.Kill(7))
}

// 7.3: the Clock is later, by one event, also by nothing; it stops at MaxNumber.
func TestTick(t *testing.T) {
	x := over(t, rules)
	now := 0
	for _, n := range []int{0, 1, 0, 20, most - 30, 8, 1, 0, 1, 5, most} {
		x.events(1, func() { x.does(api.OK)(x.s.Tick(n)) })
		now = min(now+n, most)
		x.want(api.State{Clock: now, Next: 1})
	}
	x.still(func() {
		for _, n := range []int{-1, most + 1, -most, 1<<63 - 1, -1 << 63} {
			x.does(api.ErrRange)(x.s.Tick(n))
		}
	})
	x.down()
	x.does(api.ErrRange)(x.s.Tick(-1))
	x.does(api.ErrState)(x.s.Tick(0))
}

// 7.3: of all families that are dead or old the first one, by its number, is dropped, by one event.
func TestSweep(t *testing.T) {
	list := []api.Family{}
	x := over(t, rules, clock(150))
	for id := range 8 {
		f := fam(id, 0, "")
		f.Made, f.Used = 140, 140
		switch id {
		case 0, 4:
			f.Dead = true
		case 2:
			f.Used = 129 // it lay too long
		case 6:
			f.Made = 49 // it lived too long
		}
		list = append(list, f)
	}
	for i := range list {
		wantErr(t, "Add", x.store.Add(put(list[(i*3)%8])), api.OK)
	}
	x.want(api.State{Clock: 150, Next: 8, Families: list})
	for i, id := range []int{0, 2, 4, 6} {
		x.events(1, func() { x.sweeps(id, api.OK)(x.s.Sweep()) })
		list = append(list[:i:i], list[i+1:]...)
		x.want(api.State{Clock: 150, Next: 8, Families: list})
	}
	x.still(func() { x.sweeps(0, api.ErrNone)(x.s.Sweep()) })
	x.down()
	x.sweeps(0, api.ErrNone)(x.s.Sweep())
}

// 7.3: there is nothing to sweep where there is nothing.
func TestSweepEmpty(t *testing.T) {
	x := over(t, rules)
	x.still(func() { x.sweeps(0, api.ErrNone)(x.s.Sweep()) })
}

// 7.1: the store's errors: the power goes off in each of the calls that change something; they change nothing, then and behind that.
func TestStoreErrors(t *testing.T) {
	dead := fam(2, 0, "")
	dead.Dead = true
	for i, call := range []func(*fixture, api.Errno){
		func(x *fixture, e api.Errno) { x.refuses(e)(x.s.Grant("app", "ann", "read")) },
		func(x *fixture, e api.Errno) { x.refuses(e)(x.s.Rotate(x.refresh(1, 3), "p", "read")) },
		func(x *fixture, e api.Errno) { x.refuses(e)(x.s.Rotate(x.refresh(1, 2), "p", "read")) },
		func(x *fixture, e api.Errno) { x.does(e)(x.s.Kill(1)) },
		func(x *fixture, e api.Errno) { x.does(e)(x.s.Tick(3)) },
		func(x *fixture, e api.Errno) { x.does(e)(x.s.Tick(0)) },
		func(x *fixture, e api.Errno) { x.sweeps(0, e)(x.s.Sweep()) },
	} {
		x := over(t, rules, put(fam(1, 3, "q")), put(dead))
		state := x.s.State()
		x.disk.Cut(0)
		x.still(func() { call(x, api.ErrDevice) })
		x.still(func() { call(x, api.ErrState) })
		x.disk.Cut(-1)
		x.still(func() { call(x, api.ErrState) }) // the store is down until it is opened anew
		x.open()
		x.want(state)
		// With a log that is full the store saves first: the power goes off in that, and behind it.
		for x.store.Log() < api.LogBlocks {
			wantErr(t, "Add", x.store.Add(clock(0)), api.OK)
		}
		for writes := range 4 {
			x.disk.Cut(writes)
			call(x, api.ErrDevice)
			x.want(state)
			call(x, api.ErrState)
			x.open()
			x.want(state)
			if log := x.store.Log(); (log == 0) != (writes == 3) {
				t.Errorf("call %d, behind %d writes: Log is %d", i, writes, log)
			}
			for x.store.Log() < api.LogBlocks {
				wantErr(t, "Add", x.store.Add(clock(0)), api.OK)
			}
		}
	}
}

// 7.2, 7.4: a Rotate whose answer can't be given, as the power goes off, leaves the token in force; it is taken by whoever shows it next.
func TestRotateWithoutPower(t *testing.T) {
	x := over(t, rules, put(fam(1, 3, "q")))
	x.disk.Cut(0)
	x.refuses(api.ErrDevice)(x.s.Rotate(x.refresh(1, 3), "a", "read"))
	x.open()
	x.gives(x.refresh(1, 4))(x.s.Rotate(x.refresh(1, 3), "b", "write"))
	x.refuses(api.ErrSpoilt)(x.s.Rotate(x.refresh(1, 3), "a", "read"))
}

// 7.1: the rules are the service's: two over one store see one state by their own rules.
func TestTwoServices(t *testing.T) {
	x := over(t, rules, put(fam(1, 3, "q")), clock(21))
	r := rules
	r.Idle, r.Key = 21, 8
	other, err := service.New(x.store, r)
	wantErr(t, "New", err, api.OK)
	text := written(t, 8, token.Token{Kind: token.Refresh, Family: 1, Generation: 3})
	x.refuses(api.ErrName)(x.s.Rotate(text, "p", "read"))
	x.refuses(api.ErrOrder)(x.s.Rotate(x.refresh(1, 3), "p", "read"))
	x.refuses(api.ErrName)(other.Rotate(x.refresh(1, 3), "p", "read"))
	next := written(t, 8, token.Token{Kind: token.Refresh, Family: 1, Generation: 4})
	x.gives(next)(other.Rotate(text, "p", "read"))
	f := fam(1, 4, "p")
	f.Scope, f.Used = "read", 21
	x.want(api.State{Clock: 21, Next: 2, Families: []api.Family{f}})
	x.gives(x.access(1, 4, 26))(x.s.Mint(x.refresh(1, 4)))
}
