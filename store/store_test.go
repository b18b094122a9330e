package store_test

import (
	"slices"
	"strings"
	"testing"

	"rotor/api"
	"rotor/disk"
	"rotor/event"
	"rotor/plain"
	"rotor/store"
)

const most = api.MaxNumber

// As long a name, and a scope, as may be.
const (
	name20  = "az09-bcdefghijklmn--"
	scope44 = "aaaaaaaa+bbbbbbbb+cccccccc+dddddddd+zzzzzzzz"
)

func put(f api.Family) event.Event { return event.Event{Kind: event.Put, Family: f} }

func dropped(id int) event.Event { return event.Event{Kind: event.Drop, Id: id} }

func clock(n int) event.Event { return event.Event{Kind: event.Clock, Time: n} }

// fam is a family of a number, told apart from others of that number by its generation.
func fam(id, generation int) api.Family {
	return api.Family{Id: id, Client: "app", Subject: "ann", Scope: "read", Generation: generation}
}

// fams are families of the numbers from the first to the last.
func fams(first, last int) []api.Family {
	var l []api.Family
	for id := first; id <= last; id++ {
		l = append(l, fam(id, 0))
	}
	return l
}

// greatest is a family of a number, of which all else is as long as may be.
func greatest(id int) api.Family {
	return api.Family{Id: id, Client: name20, Subject: name20, Scope: scope44, Generation: most, Made: most, Used: most, Request: name20, Dead: true}
}

// wantErr holds an error against the Errno that it is to be, without a place.
func wantErr(t *testing.T, what string, err error, want api.Errno) {
	t.Helper()
	if got, bare := plain.Bare(err); got != want || !bare {
		t.Errorf("%.200s: error %d, without a place %v; want error %d", what, got, bare, want)
	}
}

// want holds a store against the state, and the number of events in the log, that it is to have.
func want(t *testing.T, s *store.Store, state api.State, log int) {
	t.Helper()
	if got := s.State(); !plain.Same(got, state) {
		t.Errorf("the state is %v; want %v", got, state)
	}
	if got := s.Log(); got != log {
		t.Errorf("Log is %d; want %d", got, log)
	}
}

func wantWrites(t *testing.T, d *disk.Disk, n int) {
	t.Helper()
	if got := d.Writes(); got != n {
		t.Errorf("%d writes were made; want %d", got, n)
	}
}

func wantDown(t *testing.T, s *store.Store, down bool) {
	t.Helper()
	if got := s.Down(); got != down {
		t.Errorf("Down is %v; want %v", got, down)
	}
}

func open(t *testing.T, d *disk.Disk) *store.Store {
	t.Helper()
	s, err := store.Open(d)
	wantErr(t, "Open", err, api.OK)
	if s == nil {
		t.Fatal("Open: no store")
	}
	return s
}

func add(t *testing.T, s *store.Store, events ...event.Event) {
	t.Helper()
	for _, e := range events {
		wantErr(t, "Add", s.Add(e), api.OK)
	}
}

func save(t *testing.T, s *store.Store) {
	t.Helper()
	wantErr(t, "Save", s.Save(), api.OK)
}

// with is a new disk, and a store of it with families of the numbers from 1 to n, and an empty log.
func with(t *testing.T, n int) (*disk.Disk, *store.Store) {
	t.Helper()
	d := &disk.Disk{}
	s := open(t, d)
	for _, f := range fams(1, n) {
		add(t, s, put(f))
	}
	save(t, s)
	return d, s
}

// fill adds events until the log is full; the clock is 1 behind them.
func fill(t *testing.T, s *store.Store) {
	t.Helper()
	for s.Log() < api.LogBlocks {
		add(t, s, clock(1))
	}
}

// 6.1: there is no disk.
func TestOpenNil(t *testing.T) {
	s, err := store.Open(nil)
	wantErr(t, "Open of nil", err, api.ErrMissing)
	if s != nil {
		t.Error("Open of nil: a store")
	}
}

// 6.1: an empty disk.
func TestOpenEmpty(t *testing.T) {
	d := &disk.Disk{}
	s := open(t, d)
	want(t, s, api.State{Next: 1}, 0)
	wantDown(t, s, false)
	if *d != (disk.Disk{}) {
		t.Error("Open wrote")
	}
}

// 6.1: Open writes nothing, whatever the disk has, and whether the power is on or not.
func TestOpenWritesNothing(t *testing.T) {
	d, s := with(t, 3)
	for range 40 {
		add(t, s, clock(1))
		before := *d
		open(t, d)
		if *d != before {
			t.Fatal("Open wrote, with power")
		}
		d.Cut(0)
		before = *d
		want(t, open(t, d), s.State(), s.Log())
		if *d != before {
			t.Fatal("Open wrote, without power")
		}
		d.Cut(-1)
	}
}

// 6.1: a disk that is opened without power is not down until a Write tells it.
func TestOpenWithoutPower(t *testing.T) {
	d, s := with(t, 2)
	add(t, s, clock(7))
	d.Cut(0)
	again := open(t, d)
	wantDown(t, again, false)
	want(t, again, api.State{Clock: 7, Next: 3, Families: fams(1, 2)}, 1)
	wantErr(t, "Add", again.Add(clock(8)), api.ErrDevice)
	wantDown(t, again, true)
	wantDown(t, s, false)
}

// 6.1: disks of others: Open ends, and so do all calls behind it.
func TestOpenOthers(t *testing.T) {
	d, s := with(t, 5)
	for range 20 {
		add(t, s, clock(1), put(fam(3, 1)))
	}
	var own []string
	for k := range api.Blocks {
		text, _ := d.Read(k)
		own = append(own, text)
	}
	long := strings.Repeat("9", api.Block)
	for shift := range api.Blocks {
		for _, change := range []func(string) string{
			func(s string) string { return s },
			func(s string) string { return s[:len(s)*shift/api.Blocks] },
			func(s string) string { return s[len(s)*shift/api.Blocks:] },
			func(s string) string { return strings.ReplaceAll(s, " ", "\x00") },
			func(s string) string { return strings.ToUpper(s) },
			func(s string) string { return long },
			func(string) string { return "p 3 app ann read 0 0 0 _ 0" },
			func(string) string { return strings.Repeat(" ", shift) },
			func(string) string { return "\xff\n" },
		} {
			x := &disk.Disk{}
			for k, text := range own {
				x.Write((k+shift)%api.Blocks, change(text))
			}
			other := open(t, x)
			other.State()
			other.Log()
			for range 20 {
				other.Add(clock(2))
			}
			other.Save()
		}
	}
}

// 6.1: each answer of State is the caller's; writing into it changes nothing else.
func TestStateIsFresh(t *testing.T) {
	_, s := with(t, 3)
	a, b := s.State(), s.State()
	a.Families[0].Id = 77
	_ = append(a.Families[:1], fam(78, 0), fam(79, 0), fam(80, 0))
	a.Clock, a.Next = 5, 6
	want(t, s, api.State{Next: 4, Families: fams(1, 3)}, 0)
	if !slices.Equal(b.Families, fams(1, 3)) {
		t.Errorf("another answer was changed: %v", b.Families)
	}
	add(t, s, put(fam(2, 9)), dropped(1))
	if !slices.Equal(b.Families, fams(1, 3)) {
		t.Errorf("an elder answer was changed: %v", b.Families)
	}
}

// 6.2: each kind of event: one write, and what Apply tells; so it is when the disk is opened anew.
func TestAdd(t *testing.T) {
	d := &disk.Disk{}
	s := open(t, d)
	for i, c := range []struct {
		e    event.Event
		want api.State
	}{
		{put(fam(3, 0)), api.State{Next: 4, Families: fams(3, 3)}},
		{put(fam(1, 0)), api.State{Next: 4, Families: []api.Family{fam(1, 0), fam(3, 0)}}},
		{put(fam(2, 0)), api.State{Next: 4, Families: fams(1, 3)}},
		{put(fam(2, 5)), api.State{Next: 4, Families: []api.Family{fam(1, 0), fam(2, 5), fam(3, 0)}}},
		{clock(9), api.State{Clock: 9, Next: 4, Families: []api.Family{fam(1, 0), fam(2, 5), fam(3, 0)}}},
		{dropped(3), api.State{Clock: 9, Next: 4, Families: []api.Family{fam(1, 0), fam(2, 5)}}},
		{dropped(3), api.State{Clock: 9, Next: 4, Families: []api.Family{fam(1, 0), fam(2, 5)}}},
		{dropped(1), api.State{Clock: 9, Next: 4, Families: []api.Family{fam(2, 5)}}},
		{clock(0), api.State{Next: 4, Families: []api.Family{fam(2, 5)}}},
		{put(fam(0, 1)), api.State{Next: 4, Families: []api.Family{fam(0, 1), fam(2, 5)}}},
		{put(greatest(most)), api.State{Next: most + 1, Families: []api.Family{fam(0, 1), fam(2, 5), greatest(most)}}},
	} {
		add(t, s, c.e)
		want(t, s, c.want, i+1)
		want(t, open(t, d), c.want, i+1)
		wantWrites(t, d, i+1)
		wantDown(t, s, false)
	}
}

// 6.2: what is no event changes nothing, and isn't written.
func TestAddArg(t *testing.T) {
	d, s := with(t, api.MaxFamilies)
	fill(t, s)
	before := *d
	state := s.State()
	for _, e := range []event.Event{
		{},
		{Kind: 4},
		{Kind: -1, Id: 1},
		put(api.Family{}),
		put(api.Family{Id: 1, Client: "app"}),
		put(api.Family{Id: 1, Subject: "ann"}),
		put(api.Family{Id: 1, Client: "app", Subject: "ann", Scope: "b+a"}),
		put(api.Family{Id: 1, Client: "app", Subject: "ann", Request: "_"}),
		put(fam(-1, 0)),
		put(fam(most+1, 0)), // ErrFull is told later
		put(fam(1, -1)),
		{Kind: event.Put, Family: fam(1, 0), Id: 1},
		{Kind: event.Put, Family: fam(1, 0), Time: 1},
		{Kind: event.Drop, Id: 1, Time: 1},
		dropped(-1),
		dropped(most + 1),
		clock(-1),
		clock(most + 1),
	} {
		wantErr(t, "Add", s.Add(e), api.ErrArg)
		want(t, s, state, api.LogBlocks)
	}
	if *d != before {
		t.Error("what is no event was written")
	}
	wantDown(t, s, false)
}

// 6.2: there is no room for one family more; for another one of a number that is there, there is.
func TestAddFull(t *testing.T) {
	d, s := with(t, api.MaxFamilies)
	before := *d
	for _, id := range []int{0, api.MaxFamilies + 1, most} {
		wantErr(t, "Add", s.Add(put(fam(id, 0))), api.ErrFull)
		want(t, s, api.State{Next: api.MaxFamilies + 1, Families: fams(1, api.MaxFamilies)}, 0)
	}
	if *d != before {
		t.Error("what there is no room for was written")
	}
	add(t, s, put(fam(1, 4)), put(fam(api.MaxFamilies, 4)), dropped(99), clock(1), dropped(7), put(fam(50, 0)))
	wantErr(t, "Add", s.Add(put(fam(7, 0))), api.ErrFull)
	want(t, open(t, d), s.State(), 6)
	if n := len(s.State().Families); n != api.MaxFamilies {
		t.Errorf("%d families; want %d", n, api.MaxFamilies)
	}
}

// 6.2: ErrFull is told ahead of a Save.
func TestAddFullLog(t *testing.T) {
	d, s := with(t, api.MaxFamilies)
	fill(t, s)
	writes := d.Writes()
	wantErr(t, "Add", s.Add(put(fam(30, 0))), api.ErrFull)
	wantWrites(t, d, writes)
	want(t, s, s.State(), api.LogBlocks)
}

// 6.2: if the log is full it is saved first, and just then.
func TestAddSaves(t *testing.T) {
	for _, families := range []int{0, 1, 3, api.MaxFamilies} {
		d, s := with(t, families)
		start := d.Writes()
		for i := range api.LogBlocks {
			add(t, s, clock(i))
			wantWrites(t, d, start+i+1)
			want(t, s, api.State{Clock: i, Next: families + 1, Families: fams(1, families)}, i+1)
		}
		add(t, s, clock(50))
		wantWrites(t, d, start+api.LogBlocks+families+1+1)
		state := api.State{Clock: 50, Next: families + 1, Families: fams(1, families)}
		want(t, s, state, 1)
		want(t, open(t, d), state, 1)
	}
}

// 6.2: what is saved first is the state ahead of the event.
func TestAddSavesWithout(t *testing.T) {
	d, s := with(t, 2)
	fill(t, s)
	writes := d.Writes()
	add(t, s, put(fam(3, 0)))
	wantWrites(t, d, writes+2+1+1)
	fill(t, s)
	writes = d.Writes()
	add(t, s, dropped(1))
	wantWrites(t, d, writes+3+1+1)
	want(t, open(t, d), api.State{Clock: 1, Next: 4, Families: fams(2, 3)}, 1)
}

// 6.2: Save makes a write for each family, and one more; the log is empty behind it, and the state as it was.
func TestSave(t *testing.T) {
	for families := range api.MaxFamilies + 1 {
		d, s := with(t, families)
		state := api.State{Next: families + 1, Families: fams(1, families)}
		for range 5 {
			writes := d.Writes()
			save(t, s)
			wantWrites(t, d, writes+families+1)
			want(t, s, state, 0)
			want(t, open(t, d), state, 0)
			wantDown(t, s, false)
		}
	}
}

// 6.2: an Add without power: nothing changes, and from then on all is refused, with power, too.
func TestAddDevice(t *testing.T) {
	d, s := with(t, 3)
	add(t, s, clock(4))
	state := s.State()
	d.Cut(0)
	wantDown(t, s, false)
	wantErr(t, "Add", s.Add(put(fam(1, 1))), api.ErrDevice)
	wantDown(t, s, true)
	want(t, s, state, 1)
	d.Cut(-1)
	writes := d.Writes()
	wantErr(t, "Add", s.Add(clock(5)), api.ErrState)
	wantErr(t, "Add of no event", s.Add(event.Event{}), api.ErrState)
	wantErr(t, "Save", s.Save(), api.ErrState)
	wantWrites(t, d, writes)
	wantDown(t, s, true)
	want(t, s, state, 1)
	want(t, open(t, d), state, 1)
}

// 6.2: what may not be is told without power, too; it is no Write.
func TestArgWithoutPower(t *testing.T) {
	d, s := with(t, api.MaxFamilies)
	d.Cut(0)
	wantErr(t, "Add of no event", s.Add(event.Event{}), api.ErrArg)
	wantErr(t, "Add", s.Add(put(fam(30, 0))), api.ErrFull)
	wantDown(t, s, false)
}

// 6.2: a power that was off between two calls alone isn't told.
func TestPowerBetween(t *testing.T) {
	d, s := with(t, 1)
	d.Cut(0)
	d.Cut(-1)
	add(t, s, clock(5))
	save(t, s)
	wantDown(t, s, false)
}

// 6.2, 6.3: a Save that isn't done to its end, wherever the power goes off.
func TestSaveDevice(t *testing.T) {
	const families = 4
	for n := range families + 1 {
		d, s := with(t, families)
		add(t, s, dropped(2), put(fam(2, 8)), clock(6))
		state := s.State()
		d.Cut(n)
		wantErr(t, "Save", s.Save(), api.ErrDevice)
		wantDown(t, s, true)
		want(t, s, state, 3)
		d.Cut(-1)
		wantErr(t, "Save", s.Save(), api.ErrState)
		again := open(t, d)
		want(t, again, state, 3)
		wantDown(t, again, false)
		add(t, again, clock(7))
		state.Clock = 7
		want(t, open(t, d), state, 4)
		save(t, again)
		want(t, open(t, d), state, 0)
	}
}

// 6.3: what a Save that was cut has left doesn't pass for what the next one wrote, that is cut, too.
func TestSaveDeviceTwice(t *testing.T) {
	const families = 4
	for first := range families + 1 {
		for second := range families {
			d, s := with(t, families)
			d.Cut(first)
			wantErr(t, "Save", s.Save(), api.ErrDevice)
			d.Cut(-1)
			s = open(t, d)
			add(t, s, put(fam(1, 7)), put(fam(2, 7)), dropped(4))
			state := s.State()
			d.Cut(second)
			wantErr(t, "Save", s.Save(), api.ErrDevice)
			d.Cut(-1)
			s = open(t, d)
			want(t, s, state, 3)
			save(t, s)
			want(t, open(t, d), state, 0)
		}
	}
}

// 6.2, 6.3: an Add that saves first, wherever the power goes off.
func TestAddSavesDevice(t *testing.T) {
	const families = 3
	for n := range families + 3 {
		d, s := with(t, families)
		fill(t, s)
		state := s.State()
		d.Cut(n)
		err := s.Add(clock(9))
		log, no := api.LogBlocks, api.ErrDevice
		if n > families {
			log = 0 // the Save was done
		}
		if n > families+1 {
			log, no, state.Clock = 1, api.OK, 9
		}
		wantErr(t, "Add", err, no)
		wantDown(t, s, no != api.OK)
		want(t, s, state, log)
		d.Cut(-1)
		want(t, open(t, d), state, log)
	}
}

// 6.3: what the log has of the time ahead of a Save is not behind it.
func TestElderLog(t *testing.T) {
	d, s := with(t, 0)
	for n := range 40 {
		fill(t, s)
		save(t, s)
		for i := range n % api.LogBlocks {
			add(t, s, clock(100+i))
		}
		want(t, open(t, d), s.State(), n%api.LogBlocks)
	}
}

// 6.3: families that an elder Save wrote are there no more.
func TestElderSlots(t *testing.T) {
	d, s := with(t, api.MaxFamilies)
	for id := 1; id <= api.MaxFamilies; id++ {
		add(t, s, dropped(id))
		save(t, s)
		want(t, open(t, d), api.State{Next: api.MaxFamilies + 1, Families: fams(id+1, api.MaxFamilies)}, 0)
	}
}

// 6.3: the clock, and the next number of families that are gone, outlive a Save.
func TestSaveKeepsClockAndNext(t *testing.T) {
	d, s := with(t, 0)
	add(t, s, put(fam(7, 0)), dropped(7), clock(most))
	for range 3 {
		save(t, s)
		s = open(t, d)
		want(t, s, api.State{Clock: most, Next: 8}, 0)
	}
	add(t, s, put(greatest(most)), dropped(most), clock(0))
	for range 3 {
		save(t, s)
		s = open(t, d)
		want(t, s, api.State{Next: most + 1}, 0)
	}
}

// 6.2, 6.3: events and families as long as may be.
func TestGreatest(t *testing.T) {
	d := &disk.Disk{}
	s := open(t, d)
	for i := range api.MaxFamilies {
		add(t, s, put(greatest(most-i)))
	}
	add(t, s, clock(most))
	for range 30 {
		save(t, s)
		s = open(t, d)
		add(t, s, put(greatest(most)))
		want(t, open(t, d), s.State(), 1)
	}
	if state := s.State(); len(state.Families) != api.MaxFamilies || state.Families[0] != greatest(most-api.MaxFamilies+1) || state.Families[api.MaxFamilies-1] != greatest(most) || state.Clock != most {
		t.Errorf("the state is %v", state)
	}
}

// 6.3: what a store has lies on its own disk alone: a copy of that, put back, is the state of then.
func TestDisks(t *testing.T) {
	d, s := with(t, 2)
	add(t, s, clock(3))
	then, state := *d, s.State()
	add(t, s, dropped(1))
	save(t, s)
	save(t, s)
	want(t, open(t, &then), state, 1)
	want(t, open(t, &disk.Disk{}), api.State{Next: 1}, 0)
	want(t, open(t, d), api.State{Clock: 3, Next: 3, Families: fams(2, 2)}, 0)
}

// model is what the document asks of a store and its disk, without blocks: how many writes are made, and what they change.
type model struct {
	state  api.State
	log    int
	down   bool
	writes int
	left   int // writes until the power goes off; below 0 it stays on
}

func (m *model) write() bool {
	if m.left == 0 {
		m.down = true
		return false
	}
	m.left--
	m.writes++
	return true
}

func (m *model) save() api.Errno {
	if m.down {
		return api.ErrState
	}
	for range len(m.state.Families) + 1 {
		if !m.write() {
			return api.ErrDevice
		}
	}
	m.log = 0
	return api.OK
}

func (m *model) add(e event.Event) api.Errno {
	if m.down {
		return api.ErrState
	}
	if _, err := event.Write(e); err != nil {
		return api.ErrArg
	}
	state := event.Apply(m.state, e)
	if len(state.Families) > api.MaxFamilies {
		return api.ErrFull
	}
	if m.log == api.LogBlocks {
		if no := m.save(); no != api.OK {
			return no
		}
	}
	if !m.write() {
		return api.ErrDevice
	}
	m.state = state
	m.log++
	return api.OK
}

// pair is a store, its disk, and the model of both.
type pair struct {
	d *disk.Disk
	s *store.Store
	m model
}

func newPair(t *testing.T) *pair {
	t.Helper()
	d := &disk.Disk{}
	return &pair{d: d, s: open(t, d), m: model{state: api.State{Next: 1}, left: -1}}
}

// cut lets the power go off behind so many writes.
func (p *pair) cut(n int) {
	p.d.Cut(n)
	p.m.left = n
}

// again opens the disk anew, with power.
func (p *pair) again(t *testing.T) {
	t.Helper()
	p.cut(-1)
	p.m.down = false
	p.s = open(t, p.d)
	p.check(t)
}

// step saves, if the event is the zero one, else adds it.
func (p *pair) step(t *testing.T, e event.Event) {
	t.Helper()
	if e == (event.Event{}) {
		wantErr(t, "Save", p.s.Save(), p.m.save())
	} else {
		wantErr(t, "Add", p.s.Add(e), p.m.add(e))
	}
	p.check(t)
}

// check holds the store against the model, and another one that opens the disk.
func (p *pair) check(t *testing.T) {
	t.Helper()
	want(t, p.s, p.m.state, p.m.log)
	wantDown(t, p.s, p.m.down)
	wantWrites(t, p.d, p.m.writes)
	want(t, open(t, p.d), p.m.state, p.m.log)
	if t.Failed() {
		t.FailNow()
	}
}

// script is events, and Saves (zero events), that fill the log, and let families come, be others, and go.
func script() []event.Event {
	l := []event.Event{{}, put(fam(1, 0)), put(fam(2, 0)), {}, dropped(1), put(fam(3, 0)), {}, {}, clock(5)}
	for i := range api.LogBlocks + 2 {
		l = append(l, put(fam(2+i%3, i)))
	}
	l = append(l, dropped(2), event.Event{}, dropped(3))
	for i := range api.LogBlocks {
		l = append(l, clock(10+i))
	}
	return append(l, put(fam(2, 1)), event.Event{})
}

// 6.3: wherever the power goes off in a script, and wherever it goes off again in what is left of it.
func TestEveryTwoCuts(t *testing.T) {
	whole := newPair(t)
	for _, e := range script() {
		whole.step(t, e)
	}
	writes := whole.m.writes
	for first := range writes + 1 {
		for second := range writes + 1 - first {
			runCut(t, script(), first, second)
		}
	}
}

// runCut runs a script; each of the cuts is that of a run from where the one ahead of it went down.
func runCut(t *testing.T, l []event.Event, cuts ...int) {
	t.Helper()
	p := newPair(t)
	for _, n := range append(cuts, -1) {
		p.cut(n)
		for len(l) > 0 && !p.m.down {
			if e := l[0]; e == (event.Event{}) {
				wantErr(t, "Save", p.s.Save(), p.m.save())
			} else {
				wantErr(t, "Add", p.s.Add(e), p.m.add(e))
			}
			if !p.m.down {
				l = l[1:]
			}
		}
		wantDown(t, p.s, p.m.down)
		p.again(t)
	}
}

// die tells numbers that look drawn, the same each time.
type die uint64

func (d *die) n(below int) int {
	*d = *d*6364136223846793005 + 1442695040888963407
	return int(uint64(*d>>33) % uint64(below))
}

// drawn is an event, mostly one that may be, or a Save.
func drawn(d *die) event.Event {
	switch d.n(12) {
	case 0:
		return event.Event{}
	case 1, 2:
		return dropped(d.n(26) - 1)
	case 3:
		return clock(d.n(99) - 1)
	case 4:
		return put(greatest(d.n(25)))
	}
	f := fam(d.n(25), d.n(99))
	f.Scope = []string{"", "read", "a+b", "b+a"}[d.n(4)]
	f.Request = []string{"", "q", "a b"}[d.n(3)]
	f.Dead = d.n(2) == 0
	return put(f)
}

// 6.1 to 6.3: long runs of calls that look drawn, with powers that go off and on, against the model.
func TestLongRuns(t *testing.T) {
	d := die(7)
	for range 60 {
		p := newPair(t)
		for range 300 {
			switch d.n(20) {
			case 0:
				p.cut(d.n(40) - 1)
			case 1, 2:
				p.again(t)
			}
			p.step(t, drawn(&d))
		}
	}
}
