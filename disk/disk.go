// Package disk: blocks, and a power that may fail behind any write.
package disk

import (
	"strings"

	"rotor/api"
)

// Disk has Blocks blocks, all empty at first. Its zero value is one.
type Disk struct {
	blocks [api.Blocks]string
	writes int
	cut    bool // false in the zero value, as the power is on there
	left   int  // writes until the power goes off; it counts only with cut
}

// Read is a block. ErrRange: there is no such one.
func (d *Disk) Read(k int) (string, error) {
	if !there(k) {
		return "", api.ErrRange
	}
	return d.blocks[k], nil
}

// Write writes a block, whole or not at all. ErrRange: there is no such one; ErrLimit: more than Block bytes; ErrDevice: the power is off.
func (d *Disk) Write(k int, s string) error {
	switch {
	case !there(k):
		return api.ErrRange
	case len(s) > api.Block:
		return api.ErrLimit
	case d.off():
		return api.ErrDevice
	}
	// A copy, as s may be a short piece of a great text, which would be kept with it.
	d.blocks[k] = strings.Clone(s)
	d.writes++
	if d.cut {
		d.left--
	}
	return nil
}

// Cut lets the power go off behind so many writes more (below 0: it stays on).
func (d *Disk) Cut(writes int) {
	d.cut = writes >= 0
	d.left = max(writes, 0)
}

// Writes is how many writes were done.
func (d *Disk) Writes() int { return d.writes }

func (d *Disk) off() bool { return d.cut && d.left == 0 }

func there(k int) bool { return k >= 0 && k < api.Blocks }
