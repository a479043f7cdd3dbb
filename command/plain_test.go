package command_test

import (
	"encoding/binary"
	"math"
	"math/rand"
	"regexp"
	"strconv"
	"testing"

	"wicket/api"
	"wicket/calls"
	"wicket/command"
)

// What the chapter's section 'Words' says, written down once more: which commands may be, their forms and texts. What is
// read is read loosely, and is what was written, if writing it makes the same again. Calls are layer 6's.

func plainMayBe(c api.Command) bool {
	noCall := len(c.Call.Ops) == 0
	switch c.Kind {
	case 1:
		return c.Token >= 1 && c.Session == 0 && c.Number == 0 && c.Mark == 0 && noCall
	case 2:
		return c.Token == 0 && c.Session >= 1 && c.Number >= 1 && c.Mark >= 0 && c.Mark < c.Number && calls.Check(c.Call) == api.OK
	case 3, 4:
		return c.Token == 0 && c.Session >= 1 && c.Number == 0 && c.Mark == 0 && noCall
	}
	return false
}

func plainChanges(c api.Command) bool {
	some := false
	for _, op := range c.Call.Ops {
		some = some || op.Kind == api.Put || op.Kind == api.Delete || op.Kind == api.Swap
	}
	return plainMayBe(c) && some
}

func plainForm(c api.Command) string {
	b := binary.AppendUvarint(nil, uint64(c.Kind))
	switch c.Kind {
	case 1:
		b = binary.AppendVarint(b, c.Token)
	case 2:
		for _, n := range []int64{c.Session, c.Number, c.Mark} {
			b = binary.AppendVarint(b, n)
		}
		call, _ := calls.Bytes(c.Call)
		b = binary.AppendUvarint(b, uint64(len(call)))
		b = append(b, call...)
	case 3, 4:
		b = binary.AppendVarint(b, c.Session)
	}
	return string(b)
}

func plainText(c api.Command) string {
	text := func(n int64) string { return strconv.FormatInt(n, 10) }
	switch c.Kind {
	case 1:
		return "open " + text(c.Token)
	case 2:
		call, _ := calls.Text(c.Call)
		return "call " + text(c.Session) + " " + text(c.Number) + " " + text(c.Mark) + " " + call
	case 3:
		return "close " + text(c.Session)
	case 4:
		return "expire " + text(c.Session)
	}
	return ""
}

func plainRead(b string) (c api.Command, ok bool) {
	left := []byte(b)
	next := func() int64 {
		n, size := binary.Varint(left)
		left = left[max(size, 0):]
		return n
	}
	kind, size := binary.Uvarint(left)
	left = left[max(size, 0):]
	c.Kind = api.CommandKind(kind)
	switch c.Kind {
	case 1:
		c.Token = next()
	case 2:
		c.Session, c.Number, c.Mark = next(), next(), next()
		_, size = binary.Uvarint(left)
		c.Call, _ = calls.Read(left[max(size, 0):])
	case 3, 4:
		c.Session = next()
	}
	return c, plainMayBe(c) && plainForm(c) == b
}

var (
	shortText = regexp.MustCompile(`\A(open|close|expire) ([0-9]{1,19})\z`)
	callText  = regexp.MustCompile(`(?s)\Acall ([0-9]{1,19}) ([0-9]{1,19}) ([0-9]{1,19}) (.*)\z`)
)

func plainParse(s string) (c api.Command, ok bool) {
	number := func(s string) int64 {
		n, _ := strconv.ParseInt(s, 10, 64)
		return n
	}
	if w := shortText.FindStringSubmatch(s); w != nil {
		switch w[1] {
		case "open":
			c.Kind, c.Token = 1, number(w[2])
		case "close":
			c.Kind, c.Session = 3, number(w[2])
		case "expire":
			c.Kind, c.Session = 4, number(w[2])
		}
	}
	if w := callText.FindStringSubmatch(s); w != nil {
		c.Kind, c.Session, c.Number, c.Mark = 2, number(w[1]), number(w[2]), number(w[3])
		c.Call, _ = calls.Parse(w[4])
	}
	return c, plainMayBe(c) && plainText(c) == s
}

// someNumber is 1 or more, mostly small, so that some are the same; now and then one of those about which forms or ranges change.
func someNumber(r *rand.Rand) int64 {
	if r.Intn(4) > 0 {
		return 1 + r.Int63n(5)
	}
	return []int64{63, 64, 127, 128, 8191, 8192, 1<<31 - 1, 1 << 31, 1 << 32, 1<<62 - 1, 1 << 62, math.MaxInt64 - 1, math.MaxInt64, 1 + r.Int63()>>r.Intn(63)}[r.Intn(14)]
}

var callTexts = []string{
	"get t k", "get t l", "scan t % % 5", "put t k v", "put t k %", "delete t k", "swap t k - v", "swap t k +a b", "get t k; get t k", "get t k; put u %00%20%3B %25",
	"scan t a b 1; get t k", "delete t k; get t k", "scan t % % 64; swap t k - %",
}

func someCall(r *rand.Rand) api.Call {
	if r.Intn(50) == 0 {
		return sized(4081 + r.Intn(16))
	}
	return parsed(callTexts[r.Intn(len(callTexts))])
}

// someCommand is a command that may be.
func someCommand(r *rand.Rand) api.Command {
	switch kind := api.CommandKind(1 + r.Intn(5)); kind {
	case api.CommandOpen:
		return open(someNumber(r))
	case api.CommandClose:
		return closing(someNumber(r))
	case api.CommandExpire:
		return expire(someNumber(r))
	}
	number := someNumber(r)
	return calling(someNumber(r), number, []int64{0, number / 2, number - 1, r.Int63n(number)}[r.Intn(4)], someCall(r))
}

// harm sets one field to something that may or may not be.
func harm(r *rand.Rand, c *api.Command) {
	n := []int64{0, 1, -1, 2, 3, math.MinInt64, math.MaxInt64, someNumber(r)}[r.Intn(8)]
	switch r.Intn(6) {
	case 0:
		c.Kind = api.CommandKind(r.Intn(8) - 1)
	case 1:
		c.Token = n
	case 2:
		c.Session = n
	case 3:
		c.Number = n
	case 4:
		c.Mark = n
	case 5:
		c.Call = append(wrongCalls(), api.Call{}, api.Call{}, someCall(r))[r.Intn(len(wrongCalls())+3)]
	}
}

// harmed is s with some bytes changed, taken out, put in, doubled or cut off.
func harmed(r *rand.Rand, s string) string {
	from, to := r.Intn(len(s)+1), r.Intn(len(s)+1)
	from, to = min(from, to), min(max(from, to), min(from, to)+3)
	more := []string{"\x00", "\x01", "\x02", "\x80", "\x81\x00", "\x80\x80", "a", "%", " ", "  ", "; ", "+", "-", "0", "1", "open", "close ", "call 1 1 0 get t k", "expire 1"}
	switch r.Intn(6) {
	case 0:
		return s[:from]
	case 1:
		return s[:from] + s[to:]
	case 2:
		return s[:to] + s[from:]
	case 3:
		return s[:from] + more[r.Intn(len(more))] + s[from:]
	case 4:
		return s[:from] + more[r.Intn(len(more))] + s[to:]
	}
	return s
}

// P9.1: of commands, whole and harmed, all is as the words say.
func TestCommandsAreAsTheWordsSay(t *testing.T) {
	r := rand.New(rand.NewSource(91))
	good, bad, changes := 0, 0, 0
	for i := range 15000 {
		c := someCommand(r)
		for n := i % 3; n > 0; n-- {
			harm(r, &c)
		}
		wantCommand(t, c)
		if plainMayBe(c) {
			good++
		} else {
			bad++
		}
		if plainChanges(c) {
			changes++
		}
	}
	if good < 5000 || bad < 5000 || changes < 1500 || changes > good-1500 {
		t.Errorf("%d may be, %d may not, %d change something", good, bad, changes)
	}
}

// P9.1: of forms, whole and harmed, Read tells what the words say.
func TestBytesAreAsTheWordsSay(t *testing.T) {
	r := rand.New(rand.NewSource(92))
	some := 0
	for i := range 30000 {
		b := plainForm(someCommand(r))
		for n := i % 3; n > 0; n-- {
			b = harmed(r, b)
		}
		if wantRead(t, b) {
			some++
		}
	}
	if some < 10000 || some > 25000 {
		t.Errorf("%d forms", some)
	}
}

// P9.1: of all short bytes of some kinds just the forms are read.
func TestShortBytesAreAsTheWordsSay(t *testing.T) {
	some := 0
	all := []string{""}
	for range 6 {
		var longer []string
		for _, s := range all {
			if wantRead(t, s) {
				some++
			}
			for _, b := range []byte("\x00\x01\x02\x03\x04\x05\x7f\x80\xff") {
				longer = append(longer, s+string([]byte{b}))
			}
		}
		all = longer
	}
	for a := range 256 {
		for b := range 256 {
			wantRead(t, string([]byte{byte(a), byte(b)}))
			// Behind a Call's numbers.
			wantRead(t, "\x02\x02\x02\x00"+string([]byte{byte(a), byte(b)})+"\x01\x01t\x01k")
		}
	}
	if some < 20 {
		t.Errorf("%d forms", some)
	}
}

// P9.1: of texts, whole and harmed, Parse tells what the words say.
func TestTextsAreAsTheWordsSay(t *testing.T) {
	r := rand.New(rand.NewSource(93))
	some := 0
	for i := range 30000 {
		s := plainText(someCommand(r))
		for n := i % 3; n > 0; n-- {
			s = harmed(r, s)
		}
		if wantParse(t, s) {
			some++
		}
	}
	if some < 10000 || some > 25000 {
		t.Errorf("%d texts", some)
	}
}

// allOf are all lists of just so many words, with a blank between each two.
func allOf(words []string, many int) []string {
	if many == 1 {
		return words
	}
	var l []string
	for _, s := range allOf(words, many-1) {
		for _, w := range words {
			l = append(l, s+" "+w)
		}
	}
	return l
}

// P9.1: of all texts of few words just the texts of commands are read.
func TestFewWordsAreAsTheWordsSay(t *testing.T) {
	words := []string{"", "open", "call", "close", "expire", "1", "2", "0", "-1", "get"}
	some := 0
	for many := 1; many <= 5; many++ {
		for _, s := range allOf(words, many) {
			if wantParse(t, s) {
				some++
			}
			if wantParse(t, s+" t k") {
				some++
			}
		}
	}
	// Three kinds with 1 or 2; call with a session 1 or 2, and 1 0, 2 0 or 2 1.
	if want := 3*2 + 2*3; some != want {
		t.Errorf("%d texts, want %d", some, want)
	}
}

// wantRead: Read is as the words say; it tells whether b is the form of a command that may be.
func wantRead(t *testing.T, b string) bool {
	t.Helper()
	want, ok := plainRead(b)
	e := api.OK
	if !ok {
		want, e = api.Command{}, api.ErrBytes
	}
	got, is := command.Read([]byte(b))
	if is != e || !same(got, want) || !ok && got.Call.Ops != nil {
		t.Errorf("Read(% .60x): %.100v, %v; want %.100v, %v", b, got, is, want, e)
	}
	return ok
}

// wantParse: Parse is as the words say; it tells whether s is the text of a command that may be.
func wantParse(t *testing.T, s string) bool {
	t.Helper()
	want, ok := plainParse(s)
	e := api.OK
	if !ok {
		want, e = api.Command{}, api.ErrBytes
	}
	got, is := command.Parse(s)
	if is != e || !same(got, want) || !ok && got.Call.Ops != nil {
		t.Errorf("Parse(%.200q): %.100v, %v; want %.100v, %v", s, got, is, want, e)
	}
	return ok
}

// wantCommand: Check, Bytes, Text, Changes are as the words say; and what they wrote is read as it was.
func wantCommand(t *testing.T, c api.Command) {
	t.Helper()
	want, form, text := api.ErrArg, "", ""
	if plainMayBe(c) {
		want, form, text = api.OK, plainForm(c), plainText(c)
	}
	if e := command.Check(c); e != want {
		t.Errorf("Check(%.200v): %v, want %v", c, e, want)
	}
	if b, e := command.Bytes(c); string(b) != form || e != want || e != api.OK && b != nil {
		t.Errorf("Bytes(%.200v): % .60x, %v; want % .60x, %v", c, b, e, form, want)
	}
	if s, e := command.Text(c); s != text || e != want {
		t.Errorf("Text(%.200v): %.200q, %v; want %.200q, %v", c, s, e, text, want)
	}
	if is := command.Changes(c); is != plainChanges(c) {
		t.Errorf("Changes(%.200v): %v", c, is)
	}
	if want == api.OK && (!wantRead(t, form) || !wantParse(t, text)) {
		t.Errorf("%.200q is not read as it was", text)
	}
}

// same goes by all fields; nil and empty lists are the same.
func same(a, b api.Command) bool {
	if a.Kind != b.Kind || a.Token != b.Token || a.Session != b.Session || a.Number != b.Number || a.Mark != b.Mark || len(a.Call.Ops) != len(b.Call.Ops) {
		return false
	}
	for i, x := range a.Call.Ops {
		y := b.Call.Ops[i]
		if x.Kind != y.Kind || x.Table != y.Table || string(x.Key) != string(y.Key) || string(x.Value) != string(y.Value) ||
			x.Has != y.Has || string(x.Old) != string(y.Old) || string(x.To) != string(y.To) || x.Most != y.Most {
			return false
		}
	}
	return true
}
