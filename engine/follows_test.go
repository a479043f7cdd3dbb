package engine_test

import (
	"math/rand"
	"strings"
	"testing"

	"wicket/api"
	"wicket/calls"
	"wicket/engine"
)

// some is a database of any few rows that any calls left, and what it must be.
func some(t *testing.T, r *rand.Rand) *both {
	t.Helper()
	q := api.Quota{Rows: 1 + r.Intn(10), Bytes: 1 + r.Intn(1+r.Intn(600))}
	b := &both{madeOf(t, q), plain{q, map[spot]string{}}}
	for range r.Intn(40) {
		op := someOp(r, b.p)
		b.e.Do(call(op))
		b.p, _ = b.p.do(call(op))
	}
	return b
}

// mayBeCall is a call that may be.
func mayBeCall(r *rand.Rand, p plain) api.Call {
	for {
		if c := someCall(r, p); calls.Check(c) == api.OK {
			return c
		}
	}
}

// P8.5: a call that is aborted, and one that only reads, leave all rows.
func TestAbortsAndReadsLeaveAllRows(t *testing.T) {
	r := rand.New(rand.NewSource(81))
	aborts, reads := 0, 0
	for range 3000 {
		b := some(t, r)
		c := mayBeCall(r, b.p)
		had := b.e.Copy()
		result, _ := b.e.Do(c)
		if result.Abort == api.AbortNone && !calls.Reads(c) {
			continue
		}
		if result.Abort != api.AbortNone {
			aborts++
		} else {
			reads++
		}
		wantSame(t, "behind "+written(c), b.e, had, true)
		b.look(t)
	}
	if aborts < 300 || reads < 300 {
		t.Errorf("%d aborts, %d reads", aborts, reads)
	}
}

// P8.5: what Do does hangs on the rows and the quota alone, not on how they came there: two that are the same answer the
// same, and are the same behind it.
func TestSameAnswerTheSame(t *testing.T) {
	r := rand.New(rand.NewSource(82))
	for range 1000 {
		b := some(t, r)
		others := []*engine.Engine{b.e.Copy(), madeOf(t, b.p.quota, b.p.all()...), byPuts(t, r, b.p)}
		for range 5 {
			c := someCall(r, b.p)
			result, errno := b.e.Do(c)
			for i, o := range others {
				got, e := o.Do(c)
				if told(got) != told(result) || e != errno || !calls.Alike(got, result) {
					t.Fatalf("%s: %s, %v; the same database, the %dth one: %s, %v", written(c), told(result), errno, i, told(got), e)
				}
				wantSame(t, "behind "+written(c), b.e, o, true)
			}
		}
	}
}

// byPuts is the same database, its rows put one by one in any order, with others by the way.
func byPuts(t *testing.T, r *rand.Rand, p plain) *engine.Engine {
	t.Helper()
	e := madeOf(t, p.quota)
	e.Do(call(put("other", "o", "")))
	e.Do(call(api.Op{Kind: api.Delete, Table: "other", Key: []byte("o")}))
	all := p.all()
	for _, at := range r.Perm(len(all)) {
		e.Do(call(put(all[at].Table, string(all[at].Key), "")))
		e.Do(call(put(all[at].Table, string(all[at].Key), string(all[at].Value))))
	}
	return e
}

// P8.5: New of All with the quota is the same database.
func TestNewOfAllIsTheSame(t *testing.T) {
	r := rand.New(rand.NewSource(83))
	l := []*engine.Engine{madeOf(t, wide), madeOf(t, wide, many(4096, 77)...), madeOf(t, api.Quota{Rows: 300, Bytes: 9999}, many(300, 300)...)}
	for range 500 {
		l = append(l, some(t, r).e)
	}
	for _, e := range l {
		o := madeOf(t, e.Quota(), listed(e.All())...)
		wantSame(t, "New of All", e, o, true)
		wantNamed(t, "All of New of All", listed(o.All()), listed(e.All()))
	}
}

// P8.5: Len and Size are never above the quota, behind calls that try to get there.
func TestNeverAboveTheQuota(t *testing.T) {
	r := rand.New(rand.NewSource(84))
	atRows, atBytes := 0, 0
	for range 200 {
		q := api.Quota{Rows: 1 + r.Intn(12), Bytes: 1 + r.Intn(60)}
		e := madeOf(t, q)
		for range 100 {
			var c api.Call
			for range 1 + r.Intn(3) {
				c.Ops = append(c.Ops, put(someOf(r, "t", "u", "v"), someOf(r, "a", "b", "c", "d", "e"), strings.Repeat("v", r.Intn(9))))
			}
			e.Do(c)
			if e.Len() > q.Rows || e.Size() > q.Bytes {
				t.Fatalf("%d rows, %d bytes, the quota is %v", e.Len(), e.Size(), q)
			}
		}
		if e.Len() == q.Rows {
			atRows++
		}
		if e.Size() == q.Bytes {
			atBytes++
		}
	}
	if atRows < 20 || atBytes < 20 {
		t.Errorf("%d have all rows, %d all bytes that may be", atRows, atBytes)
	}
}

// P8.5: an aborted call's Place is the least n such that the first n + 1 ops, as a call, are aborted; with the same reason.
func TestPlaceIsTheLeast(t *testing.T) {
	r := rand.New(rand.NewSource(85))
	places := map[int]int{}
	for range 6000 {
		b := some(t, r)
		c := mayBeCall(r, b.p)
		_, result, _ := b.e.Try(c)
		if result.Abort == api.AbortNone {
			continue
		}
		places[result.Place]++
		for n := range c.Ops {
			_, front, e := b.e.Try(call(c.Ops[:n+1]...))
			want := api.AbortNone
			if n >= result.Place {
				want = result.Abort
			}
			if e != api.OK || front.Abort != want {
				t.Fatalf("%s: %s; its first %d ops: %s, %v", written(c), told(result), n+1, told(front), e)
			}
		}
	}
	for n := range 6 {
		if places[n] < 10 {
			t.Errorf("%d aborts at %d", places[n], n)
		}
	}
}

// P8.5, P8.2: Try is Do to a copy, and Look is Do of what only reads.
func TestTryAndLookAreAsDo(t *testing.T) {
	r := rand.New(rand.NewSource(86))
	for range 2000 {
		b := some(t, r)
		c := someCall(r, b.p)
		had, copied := b.e.Copy(), b.e.Copy()
		o, tried, tryErrno := b.e.Try(c)
		looked, lookErrno := b.e.Look(c)
		wantSame(t, "behind Try and Look", b.e, had, true)
		done, errno := copied.Do(c)
		if tryErrno != errno || told(tried) != told(done) || errno == api.OK && !o.Same(copied) {
			t.Fatalf("%s: Do %s, %v; Try %s, %v", written(c), told(done), errno, told(tried), tryErrno)
		}
		if calls.Reads(c) && (lookErrno != errno || told(looked) != told(done)) || !calls.Reads(c) && lookErrno == api.OK {
			t.Fatalf("%s: Do %s, %v; Look %s, %v", written(c), told(done), errno, told(looked), lookErrno)
		}
	}
}

// P8.2, layer 6: what Do answers is a result that may be.
func TestResultsMayBe(t *testing.T) {
	r := rand.New(rand.NewSource(87))
	for range 2000 {
		b := some(t, r)
		c := mayBeCall(r, b.p)
		result, errno := b.e.Do(c)
		form, e := calls.Result(result)
		back, readErrno := calls.ReadResult(form)
		if errno != api.OK || e != api.OK || readErrno != api.OK || !calls.Alike(result, back) {
			t.Fatalf("%s: %s, %v, %v, %v", written(c), told(result), errno, e, readErrno)
		}
		if result.Abort == api.AbortNone && len(result.Outs) != len(c.Ops) {
			t.Fatalf("%s: %d answers", written(c), len(result.Outs))
		}
	}
}
