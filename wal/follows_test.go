package wal_test

import (
	"fmt"
	"math/rand"
	"slices"
	"testing"

	"wicket/api"
	"wicket/disk"
	"wicket/wal"
)

func someOf(r *rand.Rand, many int) []string {
	var l []string
	for range many {
		l = append(l, someText(r))
	}
	return l
}

// someFirst is a number behind which there are 1024 more.
func someFirst(r *rand.Rand) int64 {
	return 1 + r.Int63n(last-api.MaxQueue)>>r.Intn(62)
}

// records are what Record tells, one behind the other.
func records(t testing.TB, first int64, texts ...string) string {
	t.Helper()
	var all string
	for _, e := range entries(first, texts...) {
		b, wrong := wal.Record(e)
		if wrong != api.OK {
			t.Fatalf("Record of %v: %v", e, wrong)
		}
		all += string(b)
	}
	return all
}

// P13.5: Entries of records is the entries, all bytes good; with a beginning of a further one behind them, too.
func TestEntriesOfRecords(t *testing.T) {
	r := rand.New(rand.NewSource(1351))
	for i := range 400 {
		first, texts := someFirst(r), someOf(r, i%7)
		b := records(t, first, texts...)
		wantGood(t, "records", b, len(b), api.OK, numbered(first, texts...)...)
		if n, e := wal.Size(entries(first, texts...)...); n != len(b) || e != api.OK {
			t.Errorf("Size of %d bytes: %d, %v", len(b), n, e)
		}
		// The further one's number does not matter: it is not read.
		further := records(t, someFirst(r), someText(r))
		for n := 1; n < len(further); n++ {
			wantGood(t, "a beginning of one more", b+further[:n], len(b), api.ErrTorn, numbered(first, texts...)...)
		}
	}
}

// P13.5: of each beginning of records those entries that are whole in it.
func TestBeginningsOfRecords(t *testing.T) {
	r := rand.New(rand.NewSource(1352))
	for range 50 {
		first, texts := someFirst(r), someOf(r, 5)
		b := recs(first, texts...)
		for cut := range len(b) {
			many := 0
			for len(recs(first, texts[:many+1]...)) <= cut {
				many++
			}
			good, why := len(recs(first, texts[:many]...)), api.ErrTorn
			if good == cut {
				why = api.OK
			}
			wantGood(t, "a beginning", b[:cut], good, why, numbered(first, texts[:many]...)...)
		}
	}
}

// past is a log as it should be, apart from its disk: texts of entries, the first of which has the number first.
type past struct {
	first   int64
	texts   []string
	lasting int // so many of the texts last
}

func (p *past) bytes() string { return recs(p.first, p.texts...) }

func (p *past) sure() int { return len(recs(p.first, p.texts[:p.lasting]...)) }

// append does Append to both; the disk's room says how many go.
func (p *past) append(t *testing.T, d *disk.Disk, texts []string) {
	t.Helper()
	room, steps, next := d.Room(), d.Steps(), p.first+int64(len(p.texts))
	many := 0
	for many < len(texts) && len(recs(next, texts[:many+1]...)) <= room {
		many++
	}
	n, e := wal.Append(d, next, commands(texts...)...)
	wantMany(t, "Append", n, e, many)
	p.texts = append(p.texts, texts[:many]...)
	wantDisk(t, "Append", d, p.bytes(), p.sure(), steps+min(many, 1))
}

func (p *past) cut(t *testing.T, d *disk.Disk, upto int64) {
	t.Helper()
	steps, many := d.Steps(), int(min(max(upto-p.first+1, 0), int64(p.lasting)))
	n, e := wal.Cut(d, upto)
	wantMany(t, "Cut", n, e, many)
	p.first, p.texts, p.lasting = p.first+int64(many), p.texts[many:], p.lasting-many
	wantDisk(t, "Cut", d, p.bytes(), p.sure(), steps+min(many, 1))
}

// stop is each Stop there may be: Scan answers OK, with all entries that lasted, and a beginning of the others.
func (p *past) stop(t *testing.T, d *disk.Disk) {
	t.Helper()
	for keep := -1; keep <= len(p.bytes())-p.sure()+1; keep++ {
		many := p.lasting
		for many < len(p.texts) && len(recs(p.first, p.texts[:many+1]...)) <= p.sure()+keep {
			many++
		}
		left := d.Stop(keep)
		l, e := wal.Scan(left)
		if e != api.OK || !slices.Equal(tellAll(l.Entries), numbered(p.first, p.texts[:many]...)) {
			t.Fatalf("behind Stop(%d): %v, %v; want %d entries of %d, %d of which lasted", keep, l, e, many, len(p.texts), p.lasting)
		}
		if l.Good != len(recs(p.first, p.texts[:many]...)) || l.Size != len(left.Log()) || l.Why != api.OK && l.Why != api.ErrTorn || (l.Why == api.OK) != (l.Good == l.Size) {
			t.Fatalf("behind Stop(%d): good %d of %d, why %v", keep, l.Good, l.Size, l.Why)
		}
	}
}

// P13.5, P0.3: what Append answers Scan tells, and what a Stop leaves, in histories of any steps.
func TestHistories(t *testing.T) {
	r := rand.New(rand.NewSource(1353))
	stopped, torn, full := 0, 0, 0
	for range 150 {
		d := fresh(t, 1+r.Intn(400))
		p := &past{first: someFirst(r)}
		for range 25 {
			switch r.Intn(6) {
			case 0, 1:
				p.append(t, d, someOf(r, r.Intn(5)))
			case 2:
				d.Sync()
				p.lasting = len(p.texts)
			case 3:
				p.cut(t, d, max(p.first+int64(r.Intn(7))-2, 0))
			case 4:
				p.stop(t, d)
			case 5:
				d = d.Stop(r.Intn(40) - 1)
				l, _ := wal.Scan(d)
				if l.Good < l.Size {
					torn++
				}
				d.Trim(l.Good)
				p.texts = p.texts[:len(l.Entries)]
				p.lasting = len(p.texts)
				stopped++
			}
			l, e := wal.Scan(d)
			if e != api.OK || !slices.Equal(tellAll(l.Entries), numbered(p.first, p.texts...)) || l.Good != l.Size || l.Size != len(p.bytes()) || l.Why != api.OK {
				t.Fatalf("Scan: %+v, %v; want %v", l, e, p)
			}
			if d.Room() < 12 {
				full++
			}
		}
	}
	if stopped < 300 || torn < 30 || full < 100 {
		t.Errorf("%d stops, %d of them torn; %d times full", stopped, torn, full)
	}
}

// spoilt is the bytes with one or two places changed, left out, or put in.
func spoilt(r *rand.Rand, s string) string {
	b := []byte(s)
	for range 1 + r.Intn(2) {
		n := r.Intn(len(b))
		more := []byte{byte(r.Intn(256)), byte(r.Intn(5)), b[r.Intn(len(b))]}[r.Intn(3)]
		switch r.Intn(4) {
		case 0:
			b = slices.Delete(b, n, n+1)
		case 1:
			b = slices.Insert(b, n, more)
		default:
			b[n] = more
		}
		if len(b) == 0 {
			break
		}
	}
	return string(b)
}

// P13.1, P13.4, P0.6: any bodies in right frames, among right ones: all is as the words say.
func TestAnyBodies(t *testing.T) {
	r := rand.New(rand.NewSource(1354))
	right, wrong := 0, 0
	for range 20000 {
		first, texts := 1+someFirst(r)%3, someOf(r, 1+r.Intn(3))
		at, b := r.Intn(len(texts)), ""
		for i, text := range texts {
			body := digits(uint64(first+int64(i))) + form(text)
			if i == at {
				body = spoilt(r, body)
			}
			b += framed(1, body)
		}
		if wantScanned(t, "any body", b).corrupt {
			wrong++
		} else {
			right++
		}
	}
	if right < 1500 || wrong < 1500 {
		t.Errorf("%d were right, %d wrong", right, wrong)
	}
}

// P13.1, P13.4, P0.6: any bytes that are other in a log: all is as the words say.
func TestAnyBytes(t *testing.T) {
	r := rand.New(rand.NewSource(1355))
	seen := map[string]int{}
	for range 10000 {
		b := recs(1+int64(r.Intn(300)), someOf(r, 1+r.Intn(4))...)
		if r.Intn(4) == 0 {
			b += framed(byte(r.Intn(3)), "")
		}
		l := wantScanned(t, "any bytes", spoilt(r, b))
		seen[fmt.Sprint(l.corrupt, l.why)]++
	}
	if len(seen) != 4 {
		t.Errorf("seen: %v", seen)
	}
}

func FuzzEntries(f *testing.F) {
	f.Add([]byte(nil))
	for _, text := range someTexts {
		f.Add([]byte(digits(5) + form(text)))
		f.Add([]byte(rec(5, text)))
	}
	f.Fuzz(func(t *testing.T, b []byte) {
		for _, log := range []string{string(b), framed(1, string(b)), rec(4, "open 5") + framed(1, string(b)) + rec(6, "open 5")} {
			want := plainScan(log)
			wantLogged(t, "any bytes", log, want)
			wantAll(t, "any bytes", wal.All([]byte(log)), want.entries...)
		}
	})
}
