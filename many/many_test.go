package many_test

import (
	"slices"
	"strconv"
	"strings"
	"sync"
	"testing"

	"rotor/api"
	"rotor/desk"
	"rotor/many"
	"rotor/plain"
)

// texts is so many sessions, no two of which are answered alike; some of them take long, some nothing.
func texts(n int) []string {
	l := make([]string, n)
	for i := range l {
		k := strconv.Itoa(i)
		l[i] = "tag " + k + " x\nnew " + k + " 9 9 9\n" + strings.Repeat("grant app ann read\ntick "+k+"\nsweep\nfamilies\n", (i*7)%40)
	}
	return l
}

func wantErr(t *testing.T, texts []string, workers int) {
	t.Helper()
	got, err := many.All(texts, workers)
	if e, bare := plain.Bare(err); e != api.ErrLimit || !bare {
		t.Errorf("%d texts by %d workers: %v; want ErrLimit", len(texts), workers, err)
	}
	if got != nil {
		t.Errorf("%d texts by %d workers: with an error %.80q is answered", len(texts), workers, got)
	}
}

func wantAll(t *testing.T, texts []string, workers int, want []string) {
	t.Helper()
	got, err := many.All(texts, workers)
	if err != nil {
		t.Errorf("%d texts by %d workers: %v", len(texts), workers, err)
	}
	if !slices.Equal(got, want) {
		t.Errorf("%d texts by %d workers are not answered as Session does, in order", len(texts), workers)
	}
}

// 9.1: Session of each, in order, however many workers there are.
func TestAll(t *testing.T) {
	for _, n := range []int{0, 1, 2, 3, 16, 17, 49, 50} {
		l := texts(n)
		want := make([]string, n)
		for i, s := range l {
			want[i] = desk.Session(s)
		}
		for workers := 1; workers <= 16; workers++ {
			wantAll(t, l, workers, want)
		}
	}
}

// 9.1: texts that are wrong are answered as Session does.
func TestWrongTexts(t *testing.T) {
	l := []string{"", "\n", "x", strings.Repeat("x", api.MaxText+1), "\xff", "tick 1\n\ntick x"}
	wantAll(t, l, 3, []string{"ok\n", "ok\n", "error 3\n", "error 4\n", "error 3\n", "1\nok\nerror 3\n"})
	wantAll(t, nil, 1, nil)
	wantAll(t, []string{}, 16, nil)
}

// 9.1: no session knows of another one, though they are the same.
func TestSameTexts(t *testing.T) {
	text := "grant app ann read\nkill 1\nsweep\ngrant app ann read\nfamilies"
	l, want := slices.Repeat([]string{text}, 50), slices.Repeat([]string{desk.Session(text)}, 50)
	for _, workers := range []int{1, 2, 16} {
		wantAll(t, l, workers, want)
	}
}

// 9.1: ErrLimit.
func TestLimits(t *testing.T) {
	for _, workers := range []int{0, -1, 17, 50, -1 << 63, 1<<63 - 1} {
		wantErr(t, texts(3), workers)
		wantErr(t, nil, workers)
		wantErr(t, texts(51), workers)
	}
	for _, n := range []int{51, 52, 1000} {
		for _, workers := range []int{1, 4, 16} {
			wantErr(t, make([]string, n), workers)
		}
	}
}

// P4: the list that is handed in isn't written into, nor kept, nor what stands behind its length.
func TestListIsLeft(t *testing.T) {
	back := texts(8)
	before := slices.Clone(back)
	first, err := many.All(back[:4], 3)
	if err != nil {
		t.Fatal(err)
	}
	if !slices.Equal(back, before) {
		t.Error("the list is written into")
	}
	want := slices.Clone(first)
	second, _ := many.All(back[:4], 3)
	for i := range second {
		second[i], back[i] = "", ""
	}
	if !slices.Equal(first, want) {
		t.Error("two answers share memory, or share it with the list")
	}
}

// Those who ask at the same time don't meet.
func TestAtTheSameTime(t *testing.T) {
	l := texts(20)
	want, err := many.All(l, 1)
	if err != nil {
		t.Fatal(err)
	}
	var group sync.WaitGroup
	for workers := 1; workers <= 8; workers++ {
		group.Go(func() { wantAll(t, l, workers, want) })
	}
	group.Wait()
}
