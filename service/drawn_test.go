package service_test

import (
	"slices"
	"strings"
	"testing"

	"rotor/api"
	"rotor/plain"
	"rotor/token"
)

// die is numbers that look drawn, the same each time.
type die uint64

func (d *die) n(most int) int {
	*d = *d*6364136223846793005 + 1442695040888963407
	return int(uint64(*d>>33) % uint64(most))
}

func (d *die) of(l ...string) string { return l[d.n(len(l))] }

// taken is by whom a generation of a family was taken, and what was given for it.
type taken struct{ request, next string }

// watch is what somebody outside may know of all families: from what was answered alone.
type watch struct {
	t      *testing.T
	given  map[int]bool     // the numbers that Grant gave
	newest map[int]int      // the generation given last
	takes  map[[2]int]taken // by family and generation
	spoilt map[int]bool     // an elder token was shown
	scopes map[int][]string // the words of each family
	again  int              // how often a lost answer came again
}

func newWatch(t *testing.T) *watch {
	return &watch{t: t, given: map[int]bool{}, newest: map[int]int{}, takes: map[[2]int]taken{}, spoilt: map[int]bool{}, scopes: map[int][]string{}}
}

func words(sc string) []string {
	return slices.DeleteFunc(strings.Split(sc, "+"), func(w string) bool { return w == "" })
}

// read is the token that a text is; every text that is given is one.
func (w *watch) read(text string) token.Token {
	w.t.Helper()
	k, err := token.Read(rules.Key, text)
	wantErr(w.t, "token.Read of "+text, err, api.OK)
	return k
}

// granted sees that no number is given twice.
func (w *watch) granted(text, sc string, err error) {
	w.t.Helper()
	if err != nil {
		return
	}
	k := w.read(text)
	if w.given[k.Family] || k.Generation != 0 {
		w.t.Errorf("%s is given, though its number was", text)
	}
	w.given[k.Family] = true
	w.scopes[k.Family] = words(sc)
}

// rotated sees that of each family one generation alone is taken, each by one request alone, and that a lost answer comes again.
func (w *watch) rotated(text, request, next string, err error) {
	w.t.Helper()
	shown, readErr := token.Read(rules.Key, text)
	if api.Tell(err) == api.ErrSpoilt {
		w.spoilt[shown.Family] = true
	}
	if err != nil {
		return
	}
	k := w.read(next)
	at := [2]int{shown.Family, shown.Generation}
	was, again := w.takes[at]
	newest := w.newest[shown.Family]
	switch {
	case readErr != nil || shown.Kind != token.Refresh:
		w.t.Errorf("%q is taken", text)
	case w.spoilt[shown.Family]:
		w.t.Errorf("%s of a family that is spoilt is taken", text)
	case k != token.Token{Kind: token.Refresh, Family: shown.Family, Generation: shown.Generation + 1}:
		w.t.Errorf("%s gives %s", text, next)
	case again && was != taken{request, next}:
		w.t.Errorf("%s is taken by %s, and then by %s", text, was.request, request)
	case again && shown.Generation+1 != newest || !again && shown.Generation != newest:
		w.t.Errorf("%s is taken, but %d is in force", text, newest)
	}
	if again {
		w.again++
	}
	w.takes[at] = taken{request, next}
	w.newest[shown.Family] = k.Generation
}

// looks sees that no scope grows, and that what is spoilt is dead or gone, for good.
func (w *watch) looks(state api.State) {
	w.t.Helper()
	for _, f := range state.Families {
		now := words(f.Scope)
		for _, word := range now {
			if !slices.Contains(w.scopes[f.Id], word) {
				w.t.Errorf("the scope of %v grew by %s", f, word)
			}
		}
		w.scopes[f.Id] = now
		if w.spoilt[f.Id] && !f.Dead {
			w.t.Errorf("%v is spoilt, but not dead", f)
		}
		if !w.given[f.Id] || f.Generation != w.newest[f.Id] {
			w.t.Errorf("%v: nobody was told of that", f)
		}
	}
}

// drawn is a run: a fixture, who looks on, and all texts that were given.
type drawn struct {
	*fixture
	*watch
	*die
	texts []string
}

// text is a token's text: a newer one rather than an elder one, now and then one that wasn't given.
func (r *drawn) text() string {
	switch r.n(30) {
	case 0:
		return r.of("", "x", "r.1.0.0000000000000000")
	case 1:
		return r.refresh(r.n(6), r.n(4))
	case 2:
		return r.access(r.n(6), r.n(4), r.n(40))
	}
	back := 3
	if r.n(4) == 0 {
		back = 40
	}
	return r.texts[max(0, len(r.texts)-1-r.n(back))]
}

func (r *drawn) keep(text string, err error) {
	if err == nil {
		r.texts = append(r.texts, text)
	}
}

// step makes one call, and says whether the state may be another one behind it.
func (r *drawn) step() bool {
	scopes := []string{"", "read", "write+read", "read+write", "list+read+write", "list", "A"}
	requests := []string{"a", "b", "a", "b", "c", ""}
	switch k := r.n(24); {
	case k < 2:
		sc := r.of(scopes...)
		text, err := r.s.Grant(r.of("app", "ann", "bob", ""), "ann", sc)
		r.granted(text, sc, err)
		r.keep(text, err)
		return err == nil
	case k < 12:
		text, request := r.text(), r.of(requests...)
		next, err := r.s.Rotate(text, request, r.of(scopes[1:]...))
		r.rotated(text, request, next, err)
		r.keep(next, err)
		return err == nil || api.Tell(err) == api.ErrSpoilt
	case k < 15:
		text, err := r.s.Mint(r.text())
		r.keep(text, err)
		return false
	case k < 18:
		r.show(r.text())
		return false
	case k == 18:
		return r.s.Kill(r.n(12)) == nil
	case k < 21:
		return r.s.Tick(r.n(5)) == nil
	case k == 21:
		_, err := r.s.Sweep()
		return err == nil
	case k == 22:
		r.disk.Cut(r.n(12))
		return false
	}
	before := r.s.State()
	r.open()
	if !plain.Same(before, r.s.State()) {
		r.fixture.t.Errorf("opened anew the state is %v; want %v", r.s.State(), before)
	}
	return false
}

// show sees that nothing of a family that is spoilt is shown.
func (r *drawn) show(text string) {
	f, err := r.s.Show(text)
	if err == nil && (r.spoilt[f.Id] || f.Dead || r.read(text).Family != f.Id) {
		r.fixture.t.Errorf("%s shows %v", text, f)
	}
}

// 7.4, and 2 and 3 of the whole: whatever is asked, in whatever order, and wherever the power goes off and the disk is opened anew: each generation is taken by one request alone, a lost answer comes again, what is spoilt stays so, no scope grows, no number is given twice; and a call that tells an error changes nothing.
func TestDrawnRuns(t *testing.T) {
	spoilt, takes, again := 0, 0, 0
	for run := range 150 {
		d := die(run)
		r := &drawn{fixture: over(t, rules), watch: newWatch(t), die: &d, texts: []string{"x"}}
		for range 300 {
			before := r.s.State()
			changed := r.step()
			after := r.s.State()
			if !changed && !plain.Same(before, after) {
				t.Fatalf("run %d: what changes nothing made %v of %v", run, after, before)
			}
			r.looks(after)
			if t.Failed() {
				t.Fatalf("in run %d", run)
			}
		}
		spoilt += len(r.spoilt)
		takes += len(r.takes)
		again += r.again
	}
	if spoilt < 100 || takes < 500 || again < 100 {
		t.Errorf("%d families were spoilt, %d tokens taken, %d answers came again: the runs are too poor", spoilt, takes, again)
	}
}

// 7.4: a thief and an owner show tokens of one family by turns, in every order of six: at most one line of generations is given, and whoever comes late ends it for both.
func TestThiefAndOwner(t *testing.T) {
	const steps = 6
	for order := range 1 << steps {
		x := over(t, rules)
		x.gives(x.refresh(1, 0))(x.s.Grant("app", "ann", "read"))
		have := [2]int{} // the generation that each of both has
		inForce, dead := 0, false
		for step := range steps {
			who := order >> step & 1
			// A request is never used twice: neither knows the other one's.
			request := []string{"owner-", "thief-"}[who] + string(rune('a'+step))
			text, next := x.refresh(1, have[who]), x.refresh(1, have[who]+1)
			switch {
			case dead:
				x.refuses(api.ErrState)(x.s.Rotate(text, request, "read"))
			case have[who] < inForce:
				x.refuses(api.ErrSpoilt)(x.s.Rotate(text, request, "read"))
				dead = true
			default:
				x.gives(next)(x.s.Rotate(text, request, "read"))
				have[who]++
				inForce++
			}
		}
		if dead {
			x.allRefused(1, steps+1, api.ErrState)
		}
	}
}
