package disk_test

import (
	"math"
	"strings"
	"testing"

	"rotor/api"
	"rotor/disk"
	"rotor/plain"
)

// wantErr holds an error against the Errno that it is to be, without a place.
func wantErr(t *testing.T, what string, err error, want api.Errno) {
	t.Helper()
	if got, bare := plain.Bare(err); got != want || !bare {
		t.Errorf("%s: error %d, without a place %v; want error %d", what, got, bare, want)
	}
}

func wantBlock(t *testing.T, d *disk.Disk, k int, want string) {
	t.Helper()
	got, err := d.Read(k)
	wantErr(t, "Read", err, api.OK)
	if got != want {
		t.Errorf("block %d is %q; want %q", k, got, want)
	}
}

func wantWrites(t *testing.T, d *disk.Disk, want int) {
	t.Helper()
	if got := d.Writes(); got != want {
		t.Errorf("Writes is %d; want %d", got, want)
	}
}

// 1.1: the zero value.
func TestNewDisk(t *testing.T) {
	var d disk.Disk
	for k := range api.Blocks {
		wantBlock(t, &d, k, "")
	}
	wantWrites(t, &d, 0)
	wantErr(t, "Write", d.Write(0, "a"), api.OK)
}

// 1.1: each block keeps what was written there last, and nothing else.
func TestWriteRead(t *testing.T) {
	var d disk.Disk
	for k := range api.Blocks {
		wantErr(t, "Write", d.Write(k, strings.Repeat("a", k)), api.OK)
	}
	for k := range api.Blocks {
		wantBlock(t, &d, k, strings.Repeat("a", k))
	}
	wantErr(t, "Write", d.Write(7, "\x00\xff\n"), api.OK)
	wantBlock(t, &d, 6, "aaaaaa")
	wantBlock(t, &d, 7, "\x00\xff\n")
	wantBlock(t, &d, 8, "aaaaaaaa")
	wantErr(t, "Write", d.Write(7, ""), api.OK)
	wantBlock(t, &d, 7, "")
	wantWrites(t, &d, api.Blocks+2)
}

// 1.1: a block that is not there.
func TestNoSuchBlock(t *testing.T) {
	var d disk.Disk
	for _, k := range []int{-1, api.Blocks, api.Blocks + 1, math.MinInt, math.MaxInt} {
		got, err := d.Read(k)
		wantErr(t, "Read", err, api.ErrRange)
		if got != "" {
			t.Errorf("with an error Read answers %q", got)
		}
		wantErr(t, "Write", d.Write(k, "a"), api.ErrRange)
	}
	wantWrites(t, &d, 0)
}

// 1.1: a text of just Block bytes, and of one more.
func TestBlockBytes(t *testing.T) {
	var d disk.Disk
	full := strings.Repeat("b", api.Block)
	wantErr(t, "Write", d.Write(1, full), api.OK)
	wantErr(t, "Write of one byte more", d.Write(1, full+"b"), api.ErrLimit)
	wantBlock(t, &d, 1, full)
	wantWrites(t, &d, 1)
	// Bytes are counted, not letters.
	wantErr(t, "Write of letters of two bytes", d.Write(2, strings.Repeat("é", api.Block/2+1)), api.ErrLimit)
	wantBlock(t, &d, 2, "")
}

// 1.1 and P3: the error that is told first.
func TestWriteErrorsInOrder(t *testing.T) {
	var d disk.Disk
	long := strings.Repeat("c", api.Block+1)
	d.Cut(0)
	wantErr(t, "all three", d.Write(-1, long), api.ErrRange)
	wantErr(t, "no block, no power", d.Write(api.Blocks, "c"), api.ErrRange)
	wantErr(t, "too long, no power", d.Write(0, long), api.ErrLimit)
	wantErr(t, "no power", d.Write(0, "c"), api.ErrDevice)
}

// 1.1: the power goes off at once; blocks can be read all the same.
func TestCutAtOnce(t *testing.T) {
	var d disk.Disk
	wantErr(t, "Write", d.Write(0, "before"), api.OK)
	d.Cut(0)
	for range 3 {
		wantErr(t, "Write", d.Write(0, "behind"), api.ErrDevice)
	}
	wantBlock(t, &d, 0, "before")
	wantWrites(t, &d, 1)
	_, err := d.Read(api.Blocks)
	wantErr(t, "Read", err, api.ErrRange)
}

// 1.1: the power goes off behind some Writes: those that tell an error are none of them.
func TestCutBehindSome(t *testing.T) {
	for some := 1; some <= 4; some++ {
		var d disk.Disk
		d.Cut(some)
		for range some {
			wantErr(t, "no block", d.Write(-1, "d"), api.ErrRange)
			wantErr(t, "too long", d.Write(0, strings.Repeat("d", api.Block+1)), api.ErrLimit)
			wantErr(t, "Write with power", d.Write(0, "d"), api.OK)
		}
		wantErr(t, "Write without power", d.Write(0, "e"), api.ErrDevice)
		wantErr(t, "once more", d.Write(0, "e"), api.ErrDevice)
		wantBlock(t, &d, 0, "d")
		wantWrites(t, &d, some)
	}
}

// 1.1: the power stays on, without a Cut and behind one below 0.
func TestCutNever(t *testing.T) {
	for _, below := range []int{-1, -2, math.MinInt} {
		var d disk.Disk
		d.Cut(1)
		d.Cut(below)
		for range 200 {
			wantErr(t, "Write", d.Write(0, "f"), api.OK)
		}
		wantWrites(t, &d, 200)
	}
}

// 1.1: the Cut that was told last holds, behind one that let the power go off too.
func TestCutAgain(t *testing.T) {
	var d disk.Disk
	d.Cut(5)
	d.Cut(1)
	wantErr(t, "Write", d.Write(0, "g"), api.OK)
	wantErr(t, "Write", d.Write(0, "h"), api.ErrDevice)
	d.Cut(2)
	wantErr(t, "Write", d.Write(0, "i"), api.OK)
	wantErr(t, "Write", d.Write(0, "j"), api.OK)
	wantErr(t, "Write", d.Write(0, "k"), api.ErrDevice)
	d.Cut(-1)
	wantErr(t, "Write", d.Write(0, "l"), api.OK)
	wantBlock(t, &d, 0, "l")
	wantWrites(t, &d, 4)
	d.Cut(math.MaxInt)
	wantErr(t, "Write", d.Write(0, "m"), api.OK)
}

// P4: a disk hangs on its own calls alone.
func TestTwoDisks(t *testing.T) {
	var a, b disk.Disk
	a.Cut(1)
	wantErr(t, "Write", a.Write(0, "a"), api.OK)
	wantErr(t, "Write", a.Write(0, "a"), api.ErrDevice)
	wantBlock(t, &b, 0, "")
	wantErr(t, "Write", b.Write(0, "b"), api.OK)
	wantErr(t, "Write", b.Write(0, "b"), api.OK)
	wantBlock(t, &a, 0, "a")
	wantWrites(t, &a, 1)
	wantWrites(t, &b, 2)
}
