package calls_test

import (
	"encoding/binary"
	"fmt"
	"math/rand"
	"regexp"
	"strconv"
	"strings"
	"testing"

	"wicket/api"
	"wicket/calls"
)

// What the chapter's section 'Words' says, written down once more: which ops, calls and results may be, their forms and
// texts. What is read is read loosely, and is what was written, if writing it makes the same again.

var (
	tableName = regexp.MustCompile(`\A[a-z0-9]{1,16}\z`)
	kindNames = map[api.OpKind]string{api.Get: "get", api.Put: "put", api.Delete: "delete", api.Swap: "swap", api.Scan: "scan"}
	hasFields = map[api.OpKind]string{api.Get: "", api.Put: "V", api.Delete: "", api.Swap: "HOV", api.Scan: "TM"}
)

func plainOp(op api.Op) bool {
	fields, is := hasFields[op.Kind]
	for field, set := range map[string]bool{"V": len(op.Value) > 0, "H": op.Has, "O": len(op.Old) > 0, "T": len(op.To) > 0, "M": op.Most != 0} {
		if set && !strings.Contains(fields, field) {
			return false
		}
	}
	if op.Kind == api.Scan && (op.Most < 1 || op.Most > 64) || op.Kind != api.Scan && len(op.Key) == 0 || len(op.Old) > 0 && !op.Has {
		return false
	}
	return is && tableName.MatchString(op.Table) && len(op.Key) <= 64 && len(op.Value) <= 256 && len(op.Old) <= 256 && len(op.To) <= 64
}

func plainMayBe(c api.Call) bool {
	for _, op := range c.Ops {
		if !plainOp(op) {
			return false
		}
	}
	return len(c.Ops) >= 1 && len(c.Ops) <= 16
}

func plainCheck(c api.Call) api.Errno {
	if !plainMayBe(c) {
		return api.ErrArg
	}
	if len(plainForm(c)) > 4096 {
		return api.ErrLong
	}
	return api.OK
}

func plainReads(c api.Call) bool {
	text := "; " + plainText(c)
	return plainMayBe(c) && strings.Count(text, "; get ")+strings.Count(text, "; scan ") == len(c.Ops)
}

func number(n int) string {
	return string(binary.AppendUvarint(nil, uint64(n)))
}

func counted(b []byte) string {
	return number(len(b)) + string(b)
}

func flag(is bool) string {
	return map[bool]string{false: "\x00", true: "\x01"}[is]
}

func plainForm(c api.Call) string {
	s := number(len(c.Ops))
	for _, op := range c.Ops {
		s += number(int(op.Kind)) + counted([]byte(op.Table)) + counted(op.Key)
		switch op.Kind {
		case api.Put:
			s += counted(op.Value)
		case api.Swap:
			s += flag(op.Has) + counted(op.Old) + counted(op.Value)
		case api.Scan:
			s += counted(op.To) + number(op.Most)
		}
	}
	return s
}

func word(b []byte) string {
	if len(b) == 0 {
		return "%"
	}
	var s strings.Builder
	for _, c := range b {
		if c <= ' ' || c >= 127 || strings.IndexByte("%,;", c) >= 0 {
			fmt.Fprintf(&s, "%%%02X", c)
		} else {
			s.WriteByte(c)
		}
	}
	return s.String()
}

func plainText(c api.Call) string {
	var ops []string
	for _, op := range c.Ops {
		s := kindNames[op.Kind] + " " + op.Table + " " + word(op.Key)
		switch {
		case op.Kind == api.Put:
			s += " " + word(op.Value)
		case op.Kind == api.Swap && op.Has:
			s += " +" + word(op.Old) + " " + word(op.Value)
		case op.Kind == api.Swap:
			s += " - " + word(op.Value)
		case op.Kind == api.Scan:
			s += " " + word(op.To) + " " + strconv.Itoa(op.Most)
		}
		ops = append(ops, s)
	}
	return strings.Join(ops, "; ")
}

func plainResultMayBe(r api.Result) bool {
	if r.Abort != api.AbortNone {
		return r.Abort >= 1 && r.Abort <= 3 && r.Place >= 0 && r.Place <= 15 && len(r.Outs) == 0
	}
	for _, o := range r.Outs {
		if len(o.Value) > 256 || len(o.Rows) > 64 {
			return false
		}
		ahead := ""
		for _, row := range o.Rows {
			// No key has no bytes, so the first one, too, is above the text without bytes.
			if string(row.Key) <= ahead || len(row.Key) > 64 || len(row.Value) > 256 {
				return false
			}
			ahead = string(row.Key)
		}
	}
	return r.Place == 0 && len(r.Outs) >= 1 && len(r.Outs) <= 16
}

func plainResultForm(r api.Result) string {
	s := number(int(r.Abort))
	if r.Abort != api.AbortNone {
		return s + number(r.Place)
	}
	s += number(len(r.Outs))
	for _, o := range r.Outs {
		s += flag(o.Has) + counted(o.Value) + number(len(o.Rows))
		for _, row := range o.Rows {
			s += counted(row.Key) + counted(row.Value)
		}
	}
	return s
}

// loose reads numbers and bytes without asking whether they may be.
type loose struct {
	left string
	bad  bool
}

func (l *loose) number() int {
	n, size := binary.Uvarint([]byte(l.left))
	if size <= 0 || n > 5000 {
		l.bad, l.left = true, ""
		return 0
	}
	l.left = l.left[size:]
	return int(n)
}

func (l *loose) bytes() []byte {
	n := l.number()
	if n > len(l.left) {
		l.bad, l.left = true, ""
		return nil
	}
	b := l.left[:n]
	l.left = l.left[n:]
	return []byte(b)
}

func plainRead(b string) (c api.Call, ok bool) {
	l := &loose{left: b}
	for many := l.number(); many > 0 && !l.bad; many-- {
		op := api.Op{Kind: api.OpKind(l.number())}
		op.Table, op.Key = string(l.bytes()), l.bytes()
		switch op.Kind {
		case api.Put:
			op.Value = l.bytes()
		case api.Swap:
			op.Has = l.number() == 1
			op.Old, op.Value = l.bytes(), l.bytes()
		case api.Scan:
			op.To, op.Most = l.bytes(), l.number()
		}
		c.Ops = append(c.Ops, op)
	}
	return c, !l.bad && plainMayBe(c) && plainForm(c) == b
}

func plainReadResult(b string) (r api.Result, ok bool) {
	l := &loose{left: b}
	r.Abort = api.Abort(l.number())
	if r.Abort != api.AbortNone {
		r.Place = l.number()
		return r, !l.bad && plainResultMayBe(r) && plainResultForm(r) == b
	}
	for many := l.number(); many > 0 && !l.bad; many-- {
		o := api.Out{Has: l.number() == 1, Value: l.bytes()}
		for rows := l.number(); rows > 0 && !l.bad; rows-- {
			o.Rows = append(o.Rows, api.Row{Key: l.bytes(), Value: l.bytes()})
		}
		r.Outs = append(r.Outs, o)
	}
	return r, !l.bad && plainResultMayBe(r) && plainResultForm(r) == b
}

var escaped = regexp.MustCompile("%[0-9A-F]{2}|%")

func plainWord(s string) []byte {
	return []byte(escaped.ReplaceAllStringFunc(s, func(part string) string {
		c, _ := strconv.ParseUint(part[1:], 16, 8)
		return string([]byte{byte(c)}[:(len(part)-1)/2])
	}))
}

func plainParse(s string) (c api.Call, ok bool) {
	for _, text := range strings.Split(s, ";") {
		// Words that lack are read as words without bytes.
		w := append(strings.Fields(text), make([]string, 5)...)
		op := api.Op{Table: w[1], Key: plainWord(w[2])}
		for kind, name := range kindNames {
			if name == w[0] {
				op.Kind = kind
			}
		}
		switch op.Kind {
		case api.Put:
			op.Value = plainWord(w[3])
		case api.Swap:
			op.Has, op.Value = strings.HasPrefix(w[3], "+"), plainWord(w[4])
			op.Old = plainWord(strings.Trim(w[3][min(1, len(w[3])):], "\x00"))
		case api.Scan:
			op.To = plainWord(w[3])
			op.Most, _ = strconv.Atoi(w[4])
		}
		c.Ops = append(c.Ops, op)
	}
	return c, plainCheck(c) == api.OK && plainText(c) == s
}

// someBytes are at most so many, of few kinds, so that some are the same; now and then as many as may be.
func someBytes(r *rand.Rand, most int) []byte {
	n := r.Intn(4)
	if r.Intn(12) == 0 {
		n = most - r.Intn(2)
	}
	if r.Intn(40) == 0 {
		n = r.Intn(most + 1)
	}
	b := make([]byte, n)
	for i := range b {
		b[i] = "ab\x00\x01\x80\xff% ;,+-5"[r.Intn(13)]
	}
	return b
}

func someKey(r *rand.Rand) []byte {
	if b := someBytes(r, api.MaxKey); len(b) > 0 {
		return b
	}
	return []byte("k")
}

// someOp is an op that may be.
func someOp(r *rand.Rand) api.Op {
	op := api.Op{Kind: api.OpKind(1 + r.Intn(5)), Table: []string{"t", "a0", "0123456789abcdef"}[r.Intn(3)], Key: someKey(r)}
	switch op.Kind {
	case api.Put:
		op.Value = someBytes(r, api.MaxValue)
	case api.Swap:
		if op.Has = r.Intn(2) == 0; op.Has {
			op.Old = someBytes(r, api.MaxValue)
		}
		op.Value = someBytes(r, api.MaxValue)
	case api.Scan:
		op.Key = someBytes(r, api.MaxKey)
		op.To = someBytes(r, api.MaxKey)
		op.Most = []int{1, 2, 63, 64, 1 + r.Intn(64)}[r.Intn(5)]
	}
	return op
}

func someCall(r *rand.Rand) api.Call {
	many := 1 + r.Intn(3)
	if r.Intn(8) == 0 {
		many = 1 + r.Intn(16)
	}
	var c api.Call
	for range many {
		c.Ops = append(c.Ops, someOp(r))
	}
	if r.Intn(60) == 0 {
		// About as long as may be.
		return sized(4081 + r.Intn(30))
	}
	return c
}

// harmOp sets one field of an op to something that may or may not be.
func harmOp(r *rand.Rand, op *api.Op) {
	long := make([]byte, []int{0, 1, 64, 65, 256, 257}[r.Intn(6)])
	switch r.Intn(8) {
	case 0:
		op.Kind = api.OpKind(r.Intn(9) - 1)
	case 1:
		op.Table = []string{"", "A", "t ", "a-b", "0123456789abcdefg", "é", "0"}[r.Intn(7)]
	case 2:
		op.Key = long
	case 3:
		op.Value = long
	case 4:
		op.Has = !op.Has
	case 5:
		op.Old = long
	case 6:
		op.To = long
	case 7:
		op.Most = []int{0, 1, 64, 65, -1, 1 << 40}[r.Intn(6)]
	}
}

func someResult(r *rand.Rand) api.Result {
	if r.Intn(6) == 0 {
		return api.Result{Abort: api.Abort(1 + r.Intn(3)), Place: []int{0, 1, 15, r.Intn(16)}[r.Intn(4)]}
	}
	many := 1 + r.Intn(3)
	if r.Intn(8) == 0 {
		many = 1 + r.Intn(16)
	}
	var x api.Result
	for range many {
		o := api.Out{Has: r.Intn(2) == 0, Value: someBytes(r, api.MaxValue)}
		for key := r.Intn(3); key < 64 && r.Intn(3) > 0; key += 1 + r.Intn(3) {
			o.Rows = append(o.Rows, api.Row{Key: []byte{byte(key)}, Value: someBytes(r, api.MaxValue)})
		}
		x.Outs = append(x.Outs, o)
	}
	return x
}

func harmResult(r *rand.Rand, x *api.Result) {
	switch r.Intn(4) {
	case 0:
		x.Abort = api.Abort(r.Intn(7) - 1)
	case 1:
		x.Place = []int{0, 1, 15, 16, -1, 1 << 40}[r.Intn(6)]
	case 2:
		x.Outs = nil
	case 3:
		harmOut(r, x)
	}
}

func harmOut(r *rand.Rand, x *api.Result) {
	if len(x.Outs) == 0 {
		x.Outs = append(x.Outs, api.Out{})
		return
	}
	o := &x.Outs[r.Intn(len(x.Outs))]
	long := make([]byte, []int{0, 1, 64, 65, 256, 257}[r.Intn(6)])
	if len(o.Rows) == 0 || r.Intn(4) == 0 {
		o.Value = long
		return
	}
	row, other := &o.Rows[r.Intn(len(o.Rows))], o.Rows[r.Intn(len(o.Rows))]
	switch r.Intn(4) {
	case 0:
		row.Key = long
	case 1:
		row.Value = long
	case 2:
		row.Key = other.Key
	case 3:
		o.Rows = append(o.Rows, other)
	}
}

// harmed is s with some bytes changed, taken out, put in, doubled or cut off.
func harmed(r *rand.Rand, s string) string {
	from, to := r.Intn(len(s)+1), r.Intn(len(s)+1)
	from, to = min(from, to), min(max(from, to), min(from, to)+3)
	more := []string{"\x00", "\x01", "\x02", "\x80", "\x81\x00", "a", "b", "%", " ", "; ", "+", "-", "0", "t", "%61", "%2b", "get t k"}
	switch r.Intn(6) {
	case 0:
		return s[:from]
	case 1:
		return s[:from] + s[to:]
	case 2:
		return s[:to] + s[from:]
	case 3:
		return s[:from] + more[r.Intn(len(more))] + s[from:]
	case 4:
		return s[:from] + more[r.Intn(len(more))] + s[to:]
	}
	return s
}

// P6.1, P6.3: of calls, whole and harmed, all is as the words say.
func TestCallsAreAsTheWordsSay(t *testing.T) {
	r := rand.New(rand.NewSource(61))
	ends := map[api.Errno]int{}
	for i := range 15000 {
		c := someCall(r)
		for n := i % 3; n > 0; n-- {
			harmOp(r, &c.Ops[r.Intn(len(c.Ops))])
		}
		wantCall(t, c)
		ends[calls.Check(c)]++
	}
	if ends[api.OK] < 5000 || ends[api.ErrArg] < 3000 || ends[api.ErrLong] < 20 {
		t.Errorf("errors: %v", ends)
	}
}

// P6.2: of results, whole and harmed, all is as the words say.
func TestResultsAreAsTheWordsSay(t *testing.T) {
	r := rand.New(rand.NewSource(62))
	some := 0
	for i := range 15000 {
		x := someResult(r)
		for n := i % 3; n > 0; n-- {
			harmResult(r, &x)
		}
		wantResult(t, x)
		if plainResultMayBe(x) {
			some++
		}
	}
	if some < 5000 || some > 12500 {
		t.Errorf("%d results that may be", some)
	}
}

// P6.1, P6.2: of forms, whole and harmed, Read and ReadResult tell what the words say.
func TestBytesAreAsTheWordsSay(t *testing.T) {
	r := rand.New(rand.NewSource(63))
	some := 0
	for i := range 30000 {
		b := plainForm(someCall(r))
		if i%2 == 0 {
			b = plainResultForm(someResult(r))
		}
		for n := i / 2 % 3; n > 0; n-- {
			b = harmed(r, b)
		}
		if wantReadBoth(t, b) {
			some++
		}
	}
	if some < 10000 || some > 25000 {
		t.Errorf("%d forms", some)
	}
}

// allOver are all texts of just so many signs.
func allOver(signs string, many int) []string {
	l := []string{""}
	for range many {
		var longer []string
		for _, s := range l {
			for i := range len(signs) {
				longer = append(longer, s+signs[i:i+1])
			}
		}
		l = longer
	}
	return l
}

// P6.1, P6.2: of all short bytes of some kinds just the forms are read.
func TestShortBytesAreAsTheWordsSay(t *testing.T) {
	some := 0
	for many := range 8 {
		for _, b := range allOver("\x00\x01\x02\x05t\x80", many) {
			if wantReadBoth(t, b) {
				some++
			}
		}
	}
	for a := range 256 {
		for b := range 256 {
			wantReadBoth(t, string([]byte{byte(a), byte(b)}))
		}
	}
	if some < 100 {
		t.Errorf("%d forms", some)
	}
}

// P6.3: of texts, whole and harmed, Parse tells what the words say.
func TestTextsAreAsTheWordsSay(t *testing.T) {
	r := rand.New(rand.NewSource(64))
	some := 0
	for i := range 15000 {
		s := plainText(someCall(r))
		for n := i % 3; n > 0; n-- {
			s = harmed(r, s)
		}
		if wantParse(t, s) {
			some++
		}
	}
	if some < 5000 || some > 13000 {
		t.Errorf("%d texts", some)
	}
}
