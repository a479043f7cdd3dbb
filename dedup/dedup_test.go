package dedup_test

import (
	"fmt"
	"math"
	"strconv"
	"strings"
	"testing"

	"wicket/api"
	"wicket/calls"
	"wicket/command"
	"wicket/dedup"
)

const (
	most     = math.MaxInt64
	lastNext = 1 << 62 // the next session's id at its greatest
)

var wide = api.Quota{Rows: api.MaxRows, Bytes: api.MaxSize}

// state is what a machine is made of, and all that can be seen of one, as texts, so that it can be held against another one.
type state struct {
	quota  api.Quota
	window int
	rows   string // "t/a=1 u/b=" are the rows a 1 of t and b nothing of u
	next   int64
	living string // "1/5/0 2=a 3=; 4/6/7" are the session 1, token 5, mark 0, answers for 2 and 3, and the session 4
}

// String tells only the beginnings of long texts.
func (s state) String() string {
	return fmt.Sprintf("quota %v, window %d, rows %.300q, next %d, living %.300q", s.quota, s.window, s.rows, s.next, s.living)
}

// at is a state with the widest quota.
func at(window int, rows string, next int64, living string) state {
	return state{wide, window, rows, next, living}
}

func see(m *dedup.Machine) state {
	return state{m.Quota(), m.Window(), rowsText(listed(m.Rows())), m.Next(), livingText(listed(m.All()))}
}

func listed[T any](over func(func(T) bool)) []T {
	var l []T
	for x := range over {
		l = append(l, x)
	}
	return l
}

func rowsText(l []api.Named) string {
	var words []string
	for _, r := range l {
		words = append(words, r.Table+"/"+string(r.Key)+"="+string(r.Value))
	}
	return strings.Join(words, " ")
}

// rows reads what rowsText writes, of rows without blanks.
func rows(text string) []api.Named {
	var l []api.Named
	for _, word := range strings.Fields(text) {
		table, row, _ := strings.Cut(word, "/")
		key, value, _ := strings.Cut(row, "=")
		l = append(l, api.Named{Table: table, Key: []byte(key), Value: []byte(value)})
	}
	return l
}

func livingText(l []api.Living) string {
	var texts []string
	for _, s := range l {
		text := fmt.Sprintf("%d/%d/%d", s.Id, s.Token, s.Mark)
		for _, k := range s.Kept {
			text += fmt.Sprintf(" %d=%s", k.Number, answerText(k.Answer))
		}
		texts = append(texts, text)
	}
	return strings.Join(texts, "; ")
}

// living reads what livingText writes, of answers that are no results, and without blanks.
func living(text string) []api.Living {
	var l []api.Living
	for _, one := range strings.Split(text, "; ") {
		words := strings.Fields(one)
		if len(words) == 0 {
			continue
		}
		ids := strings.Split(words[0], "/")
		s := api.Living{Id: number(ids[0]), Token: number(ids[1]), Mark: number(ids[2])}
		for _, word := range words[1:] {
			n, answer, _ := strings.Cut(word, "=")
			s.Kept = append(s.Kept, api.Kept{Number: number(n), Answer: []byte(answer)})
		}
		l = append(l, s)
	}
	return l
}

func number(text string) int64 {
	n, err := strconv.ParseInt(text, 10, 64)
	if err != nil {
		panic(err)
	}
	return n
}

// answerText writes a result as "+1,-[a=1|b=2]", an abort as "rows@1", other bytes as they are.
func answerText(b []byte) string {
	r, e := calls.ReadResult(b)
	switch {
	case e != api.OK:
		return string(b)
	case r.Abort != api.AbortNone:
		return fmt.Sprintf("%s@%d", [...]string{"none", "other", "rows", "bytes"}[r.Abort], r.Place)
	}
	var outs []string
	for _, o := range r.Outs {
		text := map[bool]string{true: "+", false: "-"}[o.Has] + string(o.Value)
		if len(o.Rows) > 0 {
			var words []string
			for _, row := range o.Rows {
				words = append(words, string(row.Key)+"="+string(row.Value))
			}
			text += "[" + strings.Join(words, "|") + "]"
		}
		outs = append(outs, text)
	}
	return strings.Join(outs, ",")
}

// said tells a reply as a word and the fields that its kind names, or an error; and all that must not be beside them.
func said(r api.Reply, e api.Errno) string {
	if e != api.OK {
		return e.Error() + beside(r)
	}
	var text string
	switch r.Kind {
	case api.ReplyOpened:
		text, r.Token, r.Session = fmt.Sprintf("opened %d %d", r.Token, r.Session), 0, 0
	case api.ReplyFull:
		text, r.Token = fmt.Sprintf("full %d", r.Token), 0
	case api.ReplyAnswered:
		text, r.Session, r.Number, r.Answer = fmt.Sprintf("answered %d %d %s", r.Session, r.Number, answerText(r.Answer)), 0, 0, nil
	case api.ReplyGone:
		text, r.Session = fmt.Sprintf("gone %d", r.Session), 0
		if r.Number != 0 {
			text, r.Number = fmt.Sprintf("%s %d", text, r.Number), 0
		}
	case api.ReplyStale, api.ReplyAhead:
		word := map[api.ReplyKind]string{api.ReplyStale: "stale", api.ReplyAhead: "ahead"}[r.Kind]
		text, r.Session, r.Number = fmt.Sprintf("%s %d %d", word, r.Session, r.Number), 0, 0
	case api.ReplyClosed:
		text, r.Session = fmt.Sprintf("closed %d", r.Session), 0
	default:
		return fmt.Sprintf("the kind %d", r.Kind)
	}
	r.Kind = 0
	return text + beside(r)
}

// beside tells what is left of a reply of which all that it names was taken out.
func beside(r api.Reply) string {
	if r.Kind == 0 && r.Token == 0 && r.Session == 0 && r.Number == 0 && r.Answer == nil {
		return ""
	}
	return fmt.Sprintf(", and beside it %v", r)
}

func of(t *testing.T, s state) *dedup.Machine {
	t.Helper()
	m, e := dedup.Of(s.quota, s.window, rows(s.rows), s.next, living(s.living)...)
	if m == nil || e != api.OK {
		t.Fatalf("Of(%v): a machine %t, %v", s, m != nil, e)
	}
	return m
}

func wantSeen(t *testing.T, what string, m *dedup.Machine, want state) {
	t.Helper()
	if got := see(m); m == nil || got != want {
		t.Errorf("%s: %v, want %v", what, got, want)
	}
}

// wantRefused: a machine that was not made.
func wantRefused(t *testing.T, what string, m *dedup.Machine, e api.Errno) {
	t.Helper()
	if m != nil || e != api.ErrArg {
		t.Errorf("%s: a machine %t, %v; want none, %v", what, m != nil, e, api.ErrArg)
	}
}

func parsed(t *testing.T, text string) api.Command {
	t.Helper()
	c, e := command.Parse(text)
	if e != api.OK {
		t.Fatalf("the command %.100q: %v", text, e)
	}
	return c
}

func parsedCall(t *testing.T, text string) api.Call {
	t.Helper()
	c, e := calls.Parse(text)
	if e != api.OK {
		t.Fatalf("the call %.100q: %v", text, e)
	}
	return c
}

func wantDo(t *testing.T, m *dedup.Machine, text, want string) {
	t.Helper()
	if got := said(m.Do(parsed(t, text))); got != want {
		t.Errorf("Do(%s): %.300q, want %.300q", text, got, want)
	}
}

// P11.1: New takes quotas and windows within their bounds, and no others.
func TestNew(t *testing.T) {
	within := func(n, last int) bool { return 1 <= n && n <= last }
	numbers := []int{math.MinInt, -1, 0, 1, 2, 63, 64, 65, 4095, 4096, 4097, 1<<20 - 1, 1 << 20, 1<<20 + 1, 1 << 32, math.MaxInt}
	for _, rows := range numbers {
		for _, bytes := range numbers {
			for _, window := range numbers {
				q := api.Quota{Rows: rows, Bytes: bytes}
				m, e := dedup.New(q, window)
				if within(rows, 4096) && within(bytes, 1<<20) && within(window, 64) {
					wantSeen(t, fmt.Sprintf("New(%v, %d): %v", q, window, e), m, state{q, window, "", 1, ""})
				} else {
					wantRefused(t, fmt.Sprintf("New(%v, %d)", q, window), m, e)
				}
				o, errno := dedup.Of(q, window, nil, 1)
				if (o != nil) != (m != nil) || errno != e || !m.Same(o) {
					t.Errorf("Of(%v, %d) of nothing: %v, and New: %v", q, window, errno, e)
				}
			}
		}
	}
}

// sessions is n sessions as livingText writes them, from an id and a token on, with marks that differ.
func sessions(n int, id, token int64) string {
	var texts []string
	for i := range int64(n) {
		texts = append(texts, fmt.Sprintf("%d/%d/%d", id+i, token+i, i%3))
	}
	return strings.Join(texts, "; ")
}

// full is the answers of a whole window behind a mark, as livingText writes them.
func full(window int, mark int64) string {
	var words []string
	for i := range int64(window) {
		words = append(words, fmt.Sprintf("%d=a%d", mark+1+i, i))
	}
	return strings.Join(words, " ")
}

// manyRows is n rows, as rowsText writes them.
func manyRows(n int) string {
	var words []string
	for i := range n {
		words = append(words, fmt.Sprintf("t%d/k%04d=", i/1000, i))
	}
	return strings.Join(words, " ")
}

// P11.1: a machine that Of makes has all that was handed in, at each bound too.
func TestOf(t *testing.T) {
	small := api.Quota{Rows: 2, Bytes: 5}
	for _, s := range []state{
		at(1, "", 1, ""), at(64, "", 2, ""), at(1, "", lastNext-1, ""), at(1, "", lastNext, ""),
		at(2, "t/a=1 t/b= u/a=2", 1, ""), {small, 2, "t/a=1 t/bb=1", 1, ""}, {small, 2, "t/a=1234", 1, ""}, at(64, manyRows(4096), 1, ""), {api.Quota{Rows: 1, Bytes: 1}, 1, "t/a=", 2, "1/1/0"},
		at(2, "", 2, "1/5/0"), at(2, "", 2, "1/5/0 1=a"), at(2, "", 2, "1/5/0 1=a 2=b"), at(2, "", 2, "1/5/0 2="), at(2, "", 9, "1/5/0; 3/6/9; 8/4/0 1=a"),
		at(2, "", 3, "1/9223372036854775807/0; 2/1/9223372036854775807"), at(2, "", 2, "1/5/9223372036854775805 9223372036854775806=a 9223372036854775807=b"),
		at(64, "", 2, "1/1/0 "+full(64, 0)), at(64, "", 2, "1/1/1000 "+full(64, 1000)), at(1, "", 2, "1/1/7 8=x"),
		at(2, "", lastNext, "4611686018427387903/1/0"), at(2, "", lastNext-1, "4611686018427387902/1/0"), at(2, "", lastNext, "1/1/0; 4611686018427387903/2/0"),
		at(3, "", 257, sessions(256, 1, 1)), at(3, "", 258, sessions(255, 2, 7)), at(3, "", lastNext, sessions(256, lastNext-256, 7)),
		at(2, "t/a=1", 4, "1/5/0 1=a; 3/9/2 4=bb"),
	} {
		wantSeen(t, "Of", of(t, s), s)
	}
}

// P11.1: nil and empty lists are the same.
func TestOfNothing(t *testing.T) {
	m, e := dedup.Of(wide, 2, []api.Named{}, 5, []api.Living{{Id: 3, Token: 4, Kept: []api.Kept{}}}...)
	wantSeen(t, fmt.Sprintf("Of with empty lists: %v", e), m, at(2, "", 5, "3/4/0"))
	o, e := dedup.Of(wide, 2, nil, 5, []api.Living{{Id: 3, Token: 4}}...)
	if !m.Same(o) || e != api.OK {
		t.Errorf("Of with nil lists is another machine, %v", e)
	}
	m, e = dedup.Of(wide, 2, nil, 2, api.Living{Id: 1, Token: 1, Kept: []api.Kept{{Number: 1, Answer: nil}, {Number: 2, Answer: []byte{}}}})
	wantSeen(t, fmt.Sprintf("Of with answers of no bytes: %v", e), m, at(2, "", 2, "1/1/0 1= 2="))
}

// P11.1: states that none is.
func TestOfRefused(t *testing.T) {
	small := api.Quota{Rows: 2, Bytes: 5}
	for _, s := range []state{
		{api.Quota{}, 2, "", 1, ""}, {api.Quota{Rows: 0, Bytes: 5}, 2, "", 1, ""}, {api.Quota{Rows: 4097, Bytes: 5}, 2, "", 1, ""}, {api.Quota{Rows: 5, Bytes: 0}, 2, "", 1, ""}, {api.Quota{Rows: 5, Bytes: 1<<20 + 1}, 2, "", 1, ""},
		at(0, "", 1, ""), at(-1, "", 1, ""), at(65, "", 1, ""), at(math.MaxInt, "", 1, ""), at(65, "", 2, "1/5/0"),
		at(2, "T/a=1", 1, ""), at(2, "/a=1", 1, ""), at(2, strings.Repeat("t", 17)+"/a=1", 1, ""), at(2, "t/=1", 1, ""), at(2, "t/"+strings.Repeat("k", 65)+"=", 1, ""), at(2, "t/a="+strings.Repeat("v", 257), 1, ""),
		at(2, "t/b=1 t/a=1", 1, ""), at(2, "t/a=1 t/a=1", 1, ""), at(2, "u/a=1 t/a=1", 1, ""), at(2, "t/a=1 u/a=1 t/b=1", 1, ""), at(2, "t/a=1 t/b=1 t/=1", 1, ""),
		{small, 2, "t/a= t/b= t/c=", 1, ""}, {small, 2, "t/a= t/b= u/a=", 1, ""}, {small, 2, "t/a=12345", 1, ""}, {small, 2, "t/a=12 u/a=12", 1, ""}, {small, 2, "t/b=1 t/a=1 u/c=12345", 1, ""},
		at(2, "", 0, ""), at(2, "", -1, ""), at(2, "", math.MinInt64, ""), at(2, "", lastNext+1, ""), at(2, "", most, ""), at(2, "", 0, "1/5/0"), at(2, "", lastNext+1, "1/5/0"),
		at(2, "", 258, sessions(257, 1, 1)), at(2, "", lastNext, sessions(300, 9, 1)),
		at(2, "", 5, "1/5/0; 1/6/0"), at(2, "", 5, "2/5/0; 1/6/0"), at(2, "", 5, "1/5/0; 3/6/0; 2/7/0"), at(2, "", 5, "1/5/0; 3/6/0; 3/7/0"), at(2, "", 5, "3/5/0; 2/6/0; 4/7/0"),
		at(2, "", 5, "0/5/0"), at(2, "", 5, "-1/5/0"), at(2, "", 5, "-1/5/0; 0/6/0; 1/7/0"), at(2, "", 5, "-9223372036854775808/5/0"),
		at(2, "", 5, "5/5/0"), at(2, "", 5, "6/5/0"), at(2, "", 5, "1/5/0; 5/6/0"), at(2, "", 1, "1/5/0"), at(2, "", lastNext, "4611686018427387904/5/0"), at(2, "", 5, "9223372036854775807/5/0"),
		at(2, "", 5, "1/5/0; 2/5/0"), at(2, "", 5, "1/5/0; 2/6/0; 3/5/0"), at(2, "", 5, "1/4/0; 2/5/0; 3/5/1 2=a"), at(2, "", 5, "1/9223372036854775807/0; 4/9223372036854775807/0"),
		at(2, "", 5, "1/0/0"), at(2, "", 5, "1/-1/0"), at(2, "", 5, "1/5/0; 2/0/0"), at(2, "", 5, "1/-9223372036854775808/0"),
		at(2, "", 5, "1/5/-1"), at(2, "", 5, "1/5/-9223372036854775808"), at(2, "", 5, "1/5/0; 2/6/-1"),
		at(2, "", 5, "1/5/0 0=a"), at(2, "", 5, "1/5/0 -1=a"), at(2, "", 5, "1/5/0 3=a"), at(2, "", 5, "1/5/3 3=a"), at(2, "", 5, "1/5/3 6=a"), at(2, "", 5, "1/5/3 4=a 6=b"),
		at(2, "", 5, "1/5/0 2=a 1=b"), at(2, "", 5, "1/5/0 1=a 1=a"), at(2, "", 5, "1/5/0 1=a 2=b 3=c"), at(2, "", 5, "1/5/0 1=a; 2/6/9 9=a"), at(2, "", 5, "1/5/9223372036854775807 9223372036854775807=a"),
		at(1, "", 5, "1/5/0 1=a 2=b"), at(63, "", 5, "1/5/0 "+full(64, 0)), at(64, "", 5, "1/5/0 "+full(65, 0)),
	} {
		m, e := dedup.Of(s.quota, s.window, rows(s.rows), s.next, living(s.living)...)
		wantRefused(t, "Of of "+s.String(), m, e)
	}
}

// P11.1: a session of each place among many that is none is refused.
func TestOfRefusedAtEachPlace(t *testing.T) {
	for place := range 256 {
		for i, spoil := range []func(l []api.Living){
			func(l []api.Living) { l[place].Token = 0 },
			func(l []api.Living) { l[place].Mark = -1 },
			func(l []api.Living) { l[place].Token = l[(place+1)%256].Token },
			func(l []api.Living) { l[place].Id = l[(place+255)%256].Id },
			func(l []api.Living) { l[place].Kept = []api.Kept{{Number: l[place].Mark}} },
			func(l []api.Living) { l[place].Kept = []api.Kept{{Number: l[place].Mark + 4}} },
		} {
			l := living(sessions(256, 1, 1))
			spoil(l)
			m, e := dedup.Of(wide, 3, nil, 257, l...)
			wantRefused(t, fmt.Sprintf("the harm %d at %d", i, place), m, e)
		}
	}
}
