package server_test

import (
	"fmt"
	"math"
	"testing"

	"wicket/api"
	"wicket/disk"
	"wicket/wal"
)

// size is how many bytes the records of these entries have.
func size(t testing.TB, first int64, texts ...string) int {
	t.Helper()
	var l []api.Entry
	for i, text := range texts {
		l = append(l, api.Entry{Number: first + int64(i), Command: parsed(text)})
	}
	n, e := wal.Size(l...)
	if e != api.OK {
		t.Fatal(e)
	}
	return n
}

// P19.3: Write writes what waits, in order, in one step; of nothing it does no step; nothing of it lasts.
func TestWrite(t *testing.T) {
	g := newRig(t, work(9, 5)).play(t, "write", "0")
	if g.d.Steps() != 1 {
		t.Errorf("%d steps", g.d.Steps())
	}
	g.play(t, "take 0: open 5", "", "take 1: close 4", "", "take 2: call 1 1 0 put t a 1", "", "write", "3", "see", "0 0 3 waiting 0 reads 0 now 0: ", "write", "0", "do", "error 5")
	if g.d.Steps() != 2 || g.d.Sure() != 0 {
		t.Errorf("%d steps, %d bytes last", g.d.Steps(), g.d.Sure())
	}
	l, e := wal.Scan(g.d)
	if got := entries(l.Entries); e != api.OK || got != "1 open 5, 2 close 4, 3 call 1 1 0 put t a 1" {
		t.Errorf("the log has %s, %v", got, e)
	}
	g.play(t, "take 3: open 6", "", "write", "1", "sync", "ok", "do", "0: opened 5 1", "do", "1: gone 4 0", "do", "2: answered 1 1 -", "do", "3: opened 6 2")
}

// P19.3: as many as there is room for; the others wait on, in their order, ahead of what comes later. A shorter one does not go
// ahead of one for which there is no room.
func TestWriteAsFarAsThereIsRoom(t *testing.T) {
	texts := []string{"open 5", "call 1 1 0 put t a 123456789012345678901234567890", "close 1", "open 6"}
	for many := range 5 {
		for spare := range 9 {
			c := work(4, 5)
			c.Log = max(1, size(t, 1, texts[:many]...)+spare)
			g := newRig(t, c)
			for i, text := range texts {
				g.play(t, fmt.Sprint("take ", i, ": ", text), "")
			}
			g.play(t, "write", fmt.Sprint(many), "see", fmt.Sprint("0 0 ", many, " waiting ", 4-many, " reads 0 now 0: "), "write", "0", "sync", "ok", "write", "0")
			if n := g.d.Steps(); n != 2+min(many, 1) {
				t.Errorf("%d steps", n)
			}
			g.play(t, "take 4: open 7", "")
			wants := []string{"0: opened 5 1", "1: answered 1 1 -", "2: closed 1", "3: opened 6 2", "4: opened 7 3"}
			if many == 0 { // the queue was full
				wants = wants[:4]
			}
			for _, want := range wants[:many] {
				g.play(t, "do", want)
			}
			// Each further one goes when the log is cut, if it has so much room at all.
			for i, want := range wants[many:] {
				next := append(append([]string{}, texts...), "open 7")[many+i]
				if size(t, int64(many+i+1), next) > c.Log {
					break
				}
				g.play(t, "keep 3", "ok")
				g.s.Write()
				g.play(t, "sync", "ok", "do", want)
			}
		}
	}
}

// P19.3: the store's error; nothing is written then, and what waits waits on, in its order. (Numbers of entries go up to 2 to the
// power 62, less what a Write may write.)
func TestWriteRefused(t *testing.T) {
	c := work(3, 5)
	for _, k := range []int64{1<<62 - 1025, 1<<62 - 1024, 1 << 62, most - 1, most} {
		g := up(t, diskOf(t, "", put(after(c, "open 5"), k)), c, 0).play(t, "take 0: open 5", "", "take 1: open 6", "", "take 2: close 1", "")
		wrong, how := "error 2", fmt.Sprintf("%d %d %d waiting 3 reads 0 now 0: ", k, k, k)
		if k == 1<<62-1025 {
			wrong = "3"
			how = fmt.Sprintf("%d %d %d waiting 0 reads 0 now 0: ", k, k, k+3)
		}
		steps := g.d.Steps()
		g.play(t, "write", wrong, "see", how)
		if k >= 1<<62-1024 {
			g.play(t, "write", wrong, "see", how, "do", "error 5", "take 4: call 1 1 0 get t a", "4: answered 1 1 -")
			if g.d.Steps() != steps {
				t.Errorf("%d steps", g.d.Steps()-steps)
			}
			continue
		}
		g.play(t, "sync", "ok", "do", "0: opened 5 1", "do", "1: opened 6 2", "do", "2: closed 1",
			"see", fmt.Sprintf("%[1]d %[1]d %[1]d waiting 0 reads 0 now 0: %d open 5, %d open 6, %d close 1", k+3, k+1, k+2, k+3))
	}
}

// P19.3: Sync makes all that is written last, each time one step; what waits does not.
func TestSync(t *testing.T) {
	g := newRig(t, work(9, 5)).play(t, "sync", "ok", "take 0: open 5", "", "sync", "ok", "do", "error 5", "write", "1", "take 0: open 6", "", "see", "0 0 1 waiting 1 reads 0 now 0: ",
		"sync", "ok", "see", "0 1 1 waiting 1 reads 0 now 0: ", "sync", "ok", "see", "0 1 1 waiting 1 reads 0 now 0: ")
	if g.d.Steps() != 6 || g.d.Sure() != len(g.d.Log()) {
		t.Errorf("%d steps, %d bytes last", g.d.Steps(), g.d.Sure())
	}
}

// P19.4: entry by entry, each reply to who asked for it; no step of the disk.
func TestDo(t *testing.T) {
	g := newRig(t, work(64, 5))
	asked := []string{
		"0: open 5", "0: opened 5 1", "1: open 5", "1: opened 5 1", "2: call 1 1 0 put t a 1; get t a", "2: answered 1 1 -; +1", "3: call 1 1 0 put t a 2", "3: answered 1 1 -; +1",
		"4: call 1 5 0 put t a 2", "4: ahead 1 5", "5: call 1 2 1 swap t a +9 2", "5: answered 1 2 aborted 1 at 0", "6: call 1 1 0 put t a 3", "6: stale 1 1",
		"7: call 2 1 0 put t a 3", "7: gone 2 1", "0: close 2", "0: gone 2 0", "1: close 1", "1: closed 1", "2: close 1", "2: gone 1 0", "3: call 1 3 2 put t a 9", "3: gone 1 3", "4: open 5", "4: opened 5 2",
	}
	for i := 0; i < len(asked); i += 2 {
		g.play(t, "take "+asked[i], "")
	}
	g.play(t, "do", "error 5", "write", "13", "do", "error 5", "sync", "ok")
	steps := g.d.Steps()
	for i := 1; i < len(asked); i += 2 {
		g.play(t, "do", asked[i])
	}
	g.play(t, "do", "error 5", "do", "error 5")
	if g.d.Steps() != steps {
		t.Errorf("%d steps", g.d.Steps()-steps)
	}
}

// P19.4: what lasts is done, what is only written is not.
func TestDoWhatLasts(t *testing.T) {
	newRig(t, work(9, 5)).play(t, "take 0: open 5", "", "write", "1", "sync", "ok", "take 0: open 6", "", "write", "1", "take 0: open 7", "",
		"do", "0: opened 5 1", "do", "error 5", "see", "1 1 2 waiting 1 reads 0 now 0: 1 open 5", "sync", "ok", "do", "0: opened 6 2", "do", "error 5", "write", "1", "sync", "ok", "do", "0: opened 7 3")
}

// P19.4: as many sessions live as may: Full, until one is closed.
func TestDoFull(t *testing.T) {
	c := work(300, 5)
	c.Log = api.MaxLog
	g := newRig(t, c)
	for i := range 258 {
		g.play(t, fmt.Sprint("take 1: open ", 10+i), "")
	}
	g.play(t, "write", "258", "sync", "ok")
	for i := range 256 {
		g.play(t, "do", fmt.Sprint("1: opened ", 10+i, " ", 1+i))
	}
	g.play(t, "do", "1: full 266", "do", "1: full 267", "do", "error 5").enter(t, "2: open 10", "2: opened 10 1")
	g.play(t, "take 3: close 77", "", "take 4: open 9", "", "write", "2", "sync", "ok", "do", "3: closed 77", "do", "4: opened 9 257")
	// What was full is no session that expires.
	g.play(t, "tick 5", "256", "write", "256")
}

// P19.4: the reads that waited for no more than is done now are told behind the reply, in the order in which they were taken;
// those that wait for more wait on. Each of the state as it is then.
func TestDoTellsReads(t *testing.T) {
	g := sessions(t, work(9, 5)).play(t,
		"take 3: call 2 1 0 put t a 2", "", "take 4: call 2 2 0 put t a 3", "", "write", "2", "sync", "ok",
		"take 5: call 1 9 0 get t a", "", "take 6: call 2 8 0 get t a", "",
		"take 4: call 2 3 0 put t a 4", "", "take 7: close 1", "", "take 3: call 2 4 0 put t b 5", "", "write", "3", "sync", "ok",
		"take 0: call 2 7 0 scan t % % 9", "", "take 5: call 1 9 0 get t a", "", "take 0: call 1 2 0 get t b", "",
		"do", "3: answered 2 1 +", "do", "4: answered 2 2 + | 5: answered 1 9 +3 | 6: answered 2 8 +3",
		"do", "4: answered 2 3 +", "do", "7: closed 1")
	g.play(t, "do", "3: answered 2 4 - | 0: answered 2 7 - a=4 b=5 | 5: gone 1 9 | 0: gone 1 2", "do", "error 5")
}

// P19.4: reads are told where nobody is told of the entry, too; and a read that waits is told of its own number, not of what it
// was when it was taken.
func TestDoTellsReadsOfAnExpire(t *testing.T) {
	sessions(t, work(9, 5)).play(t, "tick 4", "0", "take 0: call 1 5 0 get t a", "0: answered 1 5 +1", "tick 5", "1", "write", "1", "sync", "ok",
		"take 2: call 2 6 0 get t a", "", "take 3: call 1 6 0 get t a", "", "do", "2: gone 2 6 | 3: answered 1 6 +1", "do", "error 5")
}

// P19.4: the entry of an elder command of the same client is told to it once, and the number of an entry tells who asked, not its
// place in what was written at once.
func TestDoTellsWhoAsked(t *testing.T) {
	g := newRig(t, work(9, 5))
	for i := range 40 {
		g.play(t, fmt.Sprintf("take %d: open %d", i%8, 100+i), "")
		if i%3 == 2 {
			g.play(t, "write", "3")
		}
		if i%7 == 6 {
			g.play(t, "sync", "ok")
		}
		if i%20 == 19 {
			g.play(t, "keep 3", "ok")
		}
	}
	g.s.Write()
	g.play(t, "sync", "ok")
	for i := range 40 {
		g.play(t, "do", fmt.Sprintf("%d: opened %d %d", i%8, 100+i, 1+i))
	}
}

// kept is what a disk has, as far as it can be told.
func kept(d *disk.Disk) string {
	last, has := d.Snapshot()
	spare, other := d.Spare()
	return fmt.Sprintf("%x, %d last, %x %t, %x %t", d.Log(), d.Sure(), last, has, spare, other)
}

// P19.5: Keep is the store's, of each number of steps; what waits, and who asked, stays.
func TestKeep(t *testing.T) {
	texts := []string{"open 1", "open 2", "call 1 1 0 put t a 1"}
	for steps := range 4 {
		g := sessions(t, work(9, 5)).play(t, "take 3: call 1 2 0 put t b 2", "", "write", "1", "sync", "ok", "take 4: call 1 3 0 get t b", "", "take 5: close 1", "", "write", "1", "take 6: close 2", "")
		still, was := g.see(), g.d.Copy()
		state := string(put(after(g.c, texts...), 3))
		g.play(t, fmt.Sprint("keep ", steps), "ok", "see", still)
		spare, _ := g.d.Spare()
		last, has := g.d.Snapshot()
		if (steps == 1) != (string(spare) == state) || (steps > 1) != (string(last) == state) || has != (steps > 1) {
			t.Errorf("Keep(%d): %s", steps, kept(g.d))
		}
		cut := 0
		if steps == 3 {
			cut = size(t, 1, texts...)
		}
		if string(g.d.Log()) != string(was.Log()[cut:]) || g.d.Sure() != was.Sure()-cut || g.d.Steps() != was.Steps()+steps {
			t.Errorf("Keep(%d): %s, %d steps", steps, kept(g.d), g.d.Steps()-was.Steps())
		}
		g.play(t, "write", "1", "sync", "ok", "do", "3: answered 1 2 - | 4: answered 1 3 +2", "do", "5: closed 1", "do", "6: closed 2", "do", "error 5")
		g.play(t, "stop 0", "ok", "up 0", "ok")
		if !g.s.State().Same(after(g.c, append(texts, "call 1 2 0 put t b 2", "close 1", "close 2")...)) {
			t.Error("another state comes up")
		}
	}
}

// P19.5: numbers of steps that there are not; nothing changes.
func TestKeepRefused(t *testing.T) {
	g := sessions(t, work(9, 5))
	still, was := g.see(), kept(g.d)
	for _, steps := range []int{math.MinInt, -1, 4, 5, 256, math.MaxInt} {
		if e := g.s.Keep(steps); e != api.ErrArg {
			t.Errorf("Keep(%d): %v", steps, e)
		}
	}
	if g.see() != still || kept(g.d) != was {
		t.Errorf("it stands at %s, %s", g.see(), kept(g.d))
	}
}

// P19.5: a disk that another one has spoilt: the store's error.
func TestKeepOfASpoiltLog(t *testing.T) {
	g := sessions(t, work(9, 5))
	elder := newRig(t, work(9, 5)).enter(t, "0: open 9", "0: opened 9 1")
	g.d.Write(elder.d.Log())
	g.play(t, "keep 2", "ok", "keep 3", "error 8")
}
