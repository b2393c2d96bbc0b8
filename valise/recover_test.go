package valise

import (
	"math/rand"
	"strconv"
	"strings"
	"testing"

	"valise/api"
	"valise/disk"
)

// wantRecovered holds Recover against an answer and what stands there then.
func wantRecovered(t *testing.T, d *disk.Disk, place string, fault api.Errno, want stands) {
	t.Helper()
	if got := Recover(d, place); got != fault {
		t.Fatalf("P10: Recover of %q: %d, want %d", place, got, fault)
	}
	wantStanding(t, "P10: Recover of "+place, d, want)
}

func TestP10OnAnyDisk(t *testing.T) {
	r := rand.New(rand.NewSource(10))
	removed := 0
	for range 300 {
		before := drawnStands(r)
		for _, place := range somePlaces() {
			after := before.without(place + ".tmp")
			removed += len(before) - len(after)
			d := before.made(t)
			wantRecovered(t, d, place, api.OK, after)
			wantRecovered(t, d, place, api.OK, after)
		}
	}
	if removed < 100 {
		t.Errorf("only %d things are removed", removed)
	}
}

func TestP10StoppedAtEveryStep(t *testing.T) {
	r := rand.New(rand.NewSource(1010))
	for i := range 100 {
		place := []string{"cache/m", "m"}[i%2]
		before := freeStands(r, place, i%6)
		if i%3 == 0 {
			before = before.with(place, []api.File{{Name: "a/b", Data: "all"}})
		}
		side := place + ".tmp"
		after, atSide := before.without(side), len(before.within(side))
		for stop := range atSide + 2 {
			d := before.made(t)
			d.Stop(stop)
			d.Room(0)
			if stop >= atSide {
				wantRecovered(t, d, place, api.OK, after)
				continue
			}
			if fault := Recover(d, place); fault != api.ErrDisk {
				t.Fatalf("P10: stopped behind %d steps of %d: %d", stop, atSide, fault)
			}
			left := standing(d)
			wantStanding(t, "P10: beside", left.without(side).made(t), after)
			if got := left.within(side); len(got) == 0 || !got.isPartOf(before) {
				t.Fatalf("P10: stopped behind %d steps of %d: at the side is %q", stop, atSide, got)
			}
			wantRecovered(t, d, place, api.ErrDisk, left)
			wantRecovered(t, d.Copy(), place, api.OK, after)
		}
	}
}

func TestP10Errors(t *testing.T) {
	onDisk := stands{"m": aFolder, "m.tmp": aFolder, "m.tmp/a": "=x"}
	for _, place := range wrongPlaces() {
		if fault := Recover(nil, place); fault != api.ErrPlace {
			t.Errorf("P10: of no place, without a disk: %d", fault)
		}
		wantRecovered(t, stoppedDisk(t, onDisk), place, api.ErrPlace, onDisk)
	}
	for _, place := range []string{"m", "n", "none/m"} {
		if fault := Recover(nil, place); fault != api.ErrDisk {
			t.Errorf("P10: without a disk: %d", fault)
		}
		wantRecovered(t, stoppedDisk(t, onDisk), place, api.ErrDisk, onDisk)
	}
	ready := onDisk.made(t)
	ready.Stop(0)
	wantRecovered(t, ready, "n", api.OK, onDisk)
	wantRecovered(t, ready, "m", api.ErrDisk, onDisk)
	wantRecovered(t, ready, "n", api.ErrDisk, onDisk)
	wantRecovered(t, &disk.Disk{}, "m", api.OK, stands{})
}

// Sides that no Extract would make: with many files, and with folders within each other.
func TestP10LargeSides(t *testing.T) {
	d := stands{"m.tmp": aFolder, "m.tmpx": "=kept"}.made(t)
	for i := range 1000 {
		d.Write("m.tmp/"+strconv.Itoa(i), "x")
	}
	wantRecovered(t, d, "m", api.OK, stands{"m.tmpx": "=kept"})
	for i := range 300 {
		d.Mkdir("m.tmp" + strings.Repeat("/in", i))
	}
	d.Write("m.tmp"+strings.Repeat("/in", 299)+"/file", "x")
	wantRecovered(t, d, "m", api.OK, stands{"m.tmpx": "=kept"})
}

// Behind Recover the place has nothing, or all, wherever an Extract was stopped.
func TestP10NothingOrAll(t *testing.T) {
	files, archive := extracted()
	before := stands{"cache": aFolder, "cache/x": "=kept", "cache/m.tmp": "=old"}
	clean := before.without("cache/m.tmp")
	nothing, all := 0, 0
	for stop := range 30 {
		d := before.made(t)
		d.Stop(stop)
		fault := Extract(d, "cache/m", module, version, archive)
		again := d.Copy()
		if fault == api.OK {
			wantRecovered(t, again, "cache/m", api.OK, clean.with("cache/m", files))
			all++
		} else {
			wantRecovered(t, again, "cache/m", api.OK, clean)
			nothing++
		}
	}
	if nothing < 5 || all < 5 {
		t.Errorf("nothing %d, all %d times", nothing, all)
	}
}
