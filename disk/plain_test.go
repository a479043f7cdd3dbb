package disk_test

import (
	"math/rand"
	"testing"

	"wicket/api"
	"wicket/disk"
)

// plain is a disk as the chapter's section 'Words' says it: bytes, each with whether it lasts, and snapshots by their names.
type plain struct {
	capacity    int
	file        string
	lasts       string // for each byte of the file y or n
	last, spare *string
	steps       int
}

func (p plain) see() seen {
	s := seen{log: p.file, steps: p.steps}
	for _, l := range p.lasts {
		if l == 'y' {
			s.sure++
		}
	}
	if p.capacity > len(p.file) {
		s.room = p.capacity - len(p.file)
	}
	if p.last != nil {
		s.snapshot, s.has = *p.last, true
	}
	if p.spare != nil {
		s.spare, s.spareHas = *p.spare, true
	}
	return s
}

func fill(n int, lasts byte) string {
	b := make([]byte, n)
	for i := range b {
		b[i] = lasts
	}
	return string(b)
}

// aStep is one step, for a disk and for a plain one.
type aStep struct {
	name  string
	do    func(d *disk.Disk) api.Errno
	plain func(p *plain) api.Errno
}

func writing(b string) aStep {
	return aStep{"Write", func(d *disk.Disk) api.Errno { return d.Write([]byte(b)) }, func(p *plain) api.Errno {
		if b != "" && len(p.file)+len(b) > p.capacity {
			return api.ErrFull
		}
		p.file, p.lasts = p.file+b, p.lasts+fill(len(b), 'n')
		return api.OK
	}}
}

func syncing() aStep {
	return aStep{"Sync", (*disk.Disk).Sync, func(p *plain) api.Errno {
		p.lasts = fill(len(p.file), 'y')
		return api.OK
	}}
}

func trimming(n int) aStep {
	return aStep{"Trim", func(d *disk.Disk) api.Errno { return d.Trim(n) }, func(p *plain) api.Errno {
		if n < 0 || n > len(p.file) {
			return api.ErrArg
		}
		p.file, p.lasts = p.file[:n], fill(n, 'y')
		return api.OK
	}}
}

func dropping(n int) aStep {
	return aStep{"Drop", func(d *disk.Disk) api.Errno { return d.Drop(n) }, func(p *plain) api.Errno {
		if n < 0 || n > p.see().sure {
			return api.ErrArg
		}
		p.file, p.lasts = p.file[n:], p.lasts[n:]
		return api.OK
	}}
}

func putting(b string) aStep {
	return aStep{"Put", func(d *disk.Disk) api.Errno { return d.Put([]byte(b)) }, func(p *plain) api.Errno {
		p.spare = &b
		return api.OK
	}}
}

func switching() aStep {
	return aStep{"Switch", (*disk.Disk).Switch, func(p *plain) api.Errno {
		if p.spare == nil {
			return api.ErrNone
		}
		p.last, p.spare = p.spare, p.last
		return api.OK
	}}
}

func someBytes(r *rand.Rand, n int) []byte {
	b := make([]byte, n)
	r.Read(b)
	return b
}

func someTexts(r *rand.Rand, many int) []string {
	var l []string
	for range many {
		l = append(l, string(someBytes(r, r.Intn(4))))
	}
	return l
}

func someStep(r *rand.Rand) aStep {
	switch r.Intn(8) {
	case 0:
		return syncing()
	case 1:
		return trimming(r.Intn(14) - 1)
	case 2:
		return dropping(r.Intn(6) - 1)
	case 3:
		return putting(string(someBytes(r, r.Intn(4))))
	case 4:
		return switching()
	}
	return writing(string(someBytes(r, r.Intn(5))))
}

func (p plain) stop(keep int) plain {
	end := p.see().sure
	for range keep {
		if end < len(p.file) {
			end++
		}
	}
	p.file, p.lasts, p.steps = p.file[:end], fill(end, 'y'), 0
	return p
}

func somePlain(t *testing.T, r *rand.Rand) (*disk.Disk, plain) {
	t.Helper()
	capacity, log, l := 1+r.Intn(12), string(someBytes(r, r.Intn(16))), someTexts(r, r.Intn(3))
	p := plain{capacity: capacity, file: log, lasts: fill(len(log), 'y')}
	if len(l) > 0 {
		p.last = &l[0]
	}
	if len(l) > 1 {
		p.spare = &l[1]
	}
	return of(t, capacity, log, l...), p
}

// P3.1 to P3.5: whatever is done with some disks, their copies and what stops leave of them, each is as a plain one is.
func TestDisksAreAsPlainOnes(t *testing.T) {
	r := rand.New(rand.NewSource(35))
	for range 200 {
		disks, plains := make([]*disk.Disk, 4), make([]plain, 4)
		for i := range disks {
			disks[i], plains[i] = somePlain(t, r)
		}
		for range 60 {
			from, to, keep := r.Intn(len(disks)), r.Intn(len(disks)), r.Intn(7)-1
			switch r.Intn(8) {
			case 0:
				disks[to], plains[to] = disks[from].Copy(), plains[from]
			case 1:
				disks[to], plains[to] = disks[from].Stop(keep), plains[from].stop(keep)
			default:
				s := someStep(r)
				wantErrno(t, s.name, s.do(disks[from]), s.plain(&plains[from]))
				plains[from].steps++
			}
			for i, d := range disks {
				wantSeen(t, "beside a plain one", d, plains[i].see())
			}
		}
		if t.Failed() {
			return
		}
	}
}
