package bank_test

import (
	"math"
	"math/rand"
	"slices"
	"testing"

	"quittance/api"
	"quittance/bank"
	"quittance/book"
	"quittance/ledger"
)

const bound = 1 << 30 // of what a frame can hold

var (
	openAct  = api.Act{Kind: api.ActOpen}
	closeAct = api.Act{Kind: api.ActClose}
)

func failAct(n int) api.Act {
	return api.Act{Kind: api.ActFail, N: n}
}

func frame(t *testing.T, acts ...api.Act) string {
	t.Helper()
	s := ""
	for _, a := range acts {
		f, err := book.Frame(a)
		if err != api.OK {
			t.Fatalf("Frame(%+v): %d", a, err)
		}
		s += f
	}
	return s
}

// do expects a reply.
func do(t *testing.T, b *bank.Bank, a api.Act, want api.Reply) {
	t.Helper()
	if r := b.Do(a); !sameReply(r, want) {
		t.Errorf("Do(%+v) = %+v, want %+v", a, r, want)
	}
}

// doOK executes acts that have no error.
func doOK(t *testing.T, b *bank.Bank, acts ...api.Act) {
	t.Helper()
	for _, a := range acts {
		if r := b.Do(a); r.Code != api.OK {
			t.Errorf("Do(%+v) = %+v", a, r)
		}
	}
}

// doFails expects an error, and nothing else.
func doFails(t *testing.T, b *bank.Bank, a api.Act, code api.Errno) {
	t.Helper()
	do(t, b, a, api.Reply{Code: code})
}

// stands compares all that a bank shows.
func stands(t *testing.T, b *bank.Bank, h api.House, log string, up bool) {
	t.Helper()
	if got := b.House(); !sameHouse(got, h) {
		t.Errorf("the house is %+v, want %+v", got, h)
	}
	if s, on := b.Book(); s != log || on != up {
		t.Errorf("the book is %q, %v; want %q, %v", s, on, log, up)
	}
}

func TestNew(t *testing.T) {
	stands(t, bank.New(), ledger.New(), "", true)
	b := bank.New()
	do(t, b, fundAct(0, 1), api.Reply{}) // no failure is scheduled
	stands(t, bank.New(), ledger.New(), "", true)
}

func TestHouseAndBookFollowTheActs(t *testing.T) {
	b := bank.New()
	h := ledger.New()
	do(t, b, payAct(0, 1, 7, 0), api.Reply{})
	add(&h, 0, 1, 7, 0)
	stands(t, b, h, frame(t, payAct(0, 1, 7, 0)), true)
	do(t, b, fundAct(0, 9), api.Reply{Done: []int{0}})
	h.Accounts[0].Has, h.Accounts[1].Has, h.Sent[0][1], h.Pays[0].State = 2, 7, 7, api.Done
	stands(t, b, h, frame(t, payAct(0, 1, 7, 0), fundAct(0, 9)), true)
	do(t, b, payAct(2, 3, 5, 2), api.Reply{N: 1})
	add(&h, 2, 3, 5, 2)
	stands(t, b, h, frame(t, payAct(0, 1, 7, 0), fundAct(0, 9), payAct(2, 3, 5, 2)), true)
	do(t, b, closeAct, api.Reply{N: 1})
	h.Pays[1].State = api.Gone
	stands(t, b, h, frame(t, payAct(0, 1, 7, 0), fundAct(0, 9), payAct(2, 3, 5, 2), closeAct), true)
}

func TestTwoBanksShareNothing(t *testing.T) {
	b, c := bank.New(), bank.New()
	doOK(t, b, fundAct(0, 5), payAct(0, 1, 9, 0), failAct(3))
	stands(t, c, ledger.New(), "", true)
	do(t, c, fundAct(0, 5), api.Reply{})
}

func TestNilBank(t *testing.T) {
	var b *bank.Bank
	if h := b.House(); !sameHouse(h, api.House{}) {
		t.Errorf("%+v", h)
	}
	if s, up := b.Book(); s != "" || up {
		t.Errorf("%q, %v", s, up)
	}
	for kind := -1; kind < 14; kind++ {
		for _, n := range numbers {
			doFails(t, b, api.Act{Kind: kind, A: n, B: n, C: n, N: n}, api.ErrNone)
		}
	}
}

// A bank that New has not made has no power; no call may panic.
func TestZeroBank(t *testing.T) {
	var b bank.Bank
	stands(t, &b, api.House{}, "", false)
	doFails(t, &b, fundAct(0, 5), api.ErrDown)
	do(t, &b, openAct, api.Reply{})
	stands(t, &b, ledger.New(), "", true)
}

func TestResultsBelongToTheCaller(t *testing.T) {
	b := bank.New()
	acts := []api.Act{payAct(0, 1, 7, 0), payAct(1, 2, 7, 0), payAct(2, 0, 7, 0), payAct(3, 0, 7, 0)}
	doOK(t, b, acts...)
	before := b.House()
	h := b.House()
	for i := range h.Pays {
		h.Pays[i] = api.Pay{Seq: -9}
	}
	_ = append(h.Pays, api.Pay{Seq: -9})
	h.Accounts[0].Has = 99
	stands(t, b, before, frame(t, acts...), true)
	r := b.Do(api.Act{Kind: api.ActUntie})
	for i := range r.Done {
		r.Done[i] = -9
	}
	_ = append(r.Done, -9)
	if h := b.House(); len(r.Done) != 3 || h.Pays[0].State != api.Done || h.Pays[3].State != api.Queued {
		t.Errorf("%+v %+v", r, h)
	}
	if before.Pays[0].State != api.Queued {
		t.Error("an act modifies a house that was returned earlier")
	}
}

// exhausted has executed MaxActs acts, the last of them as given.
func exhausted(t *testing.T, last ...api.Act) *bank.Bank {
	t.Helper()
	b := bank.New()
	for range api.MaxActs - len(last) {
		doOK(t, b, fundAct(0, 1))
	}
	for _, a := range last {
		b.Do(a)
	}
	return b
}

func TestMaxActs(t *testing.T) {
	b := exhausted(t)
	h := b.House()
	log, up := b.Book()
	if h.Accounts[0].Has != api.MaxActs || !up {
		t.Fatalf("%+v", h)
	}
	for range 3 {
		for kind := -1; kind < 14; kind++ {
			doFails(t, b, api.Act{Kind: kind, A: 0, B: 1, C: 0, N: 1}, api.ErrFull)
			doFails(t, b, api.Act{Kind: kind, A: -1, N: -2}, api.ErrFull)
		}
	}
	stands(t, b, h, log, up)
}

func TestMaxActsCountsEveryReply(t *testing.T) {
	for _, a := range []api.Act{
		{}, {Kind: 12}, fundAct(0, 0), payAct(0, 0, 1, 0), {Kind: api.ActRevoke}, {Kind: api.ActSpend, N: 1}, openAct,
		failAct(-1), failAct(5), {Kind: api.ActUntie}, {Kind: api.ActClose, A: bound + 1},
	} {
		b := bank.New()
		for i := range api.MaxActs {
			if r := b.Do(a); r.Code == api.ErrFull {
				t.Errorf("%+v is the act %d and replies %+v", a, i, r)
			}
		}
		doFails(t, b, fundAct(0, 1), api.ErrFull)
	}
}

func TestMaxActsComesFirstWithoutPower(t *testing.T) {
	b := exhausted(t, failAct(3), fundAct(0, 1))
	h := b.House()
	log, up := b.Book()
	if up {
		t.Fatal("the power is on")
	}
	doFails(t, b, openAct, api.ErrFull)
	doFails(t, b, fundAct(0, 1), api.ErrFull)
	stands(t, b, h, log, false)

	b = exhausted(t, failAct(3), fundAct(0, 1), fundAct(0, 1), openAct)
	if _, up := b.Book(); !up {
		t.Fatal("the last act is not executed")
	}
	doFails(t, b, openAct, api.ErrFull)
}

func TestOpenWithPower(t *testing.T) {
	b := bank.New()
	doFails(t, b, openAct, api.ErrKind)
	doOK(t, b, fundAct(0, 5), payAct(0, 1, 9, 0))
	h := b.House()
	doFails(t, b, openAct, api.ErrKind)
	doOK(t, b, failAct(3))
	doFails(t, b, openAct, api.ErrKind) // the failure is scheduled, and has not happened
	stands(t, b, h, frame(t, fundAct(0, 5), payAct(0, 1, 9, 0)), true)
	doFails(t, b, fundAct(0, 5), api.ErrDown)
}

// down is a bank whose power has failed after the first bytes of an act that funds bank 3.
func down(t *testing.T, kept int, acts ...api.Act) *bank.Bank {
	t.Helper()
	b := bank.New()
	doOK(t, b, acts...)
	doOK(t, b, failAct(kept))
	doFails(t, b, fundAct(3, 50), api.ErrDown)
	return b
}

func TestOpenRestores(t *testing.T) {
	acts := []api.Act{payAct(0, 1, 7, 0), fundAct(0, 9), payAct(1, 2, 8, 1)}
	for kept := range 5 {
		b := down(t, kept, acts...)
		h := b.House()
		stands(t, b, bank.Replay(acts), frame(t, acts...)+frame(t, fundAct(3, 50))[:kept], false)
		do(t, b, openAct, api.Reply{N: 3})
		stands(t, b, h, frame(t, acts...), true)
		doFails(t, b, openAct, api.ErrKind)
		do(t, b, fundAct(3, 1), api.Reply{})
		h.Accounts[3].Has = 1
		stands(t, b, h, frame(t, acts...)+frame(t, fundAct(3, 1)), true)
	}
}

func TestOpenOfAnEmptyBook(t *testing.T) {
	b := down(t, 0)
	stands(t, b, ledger.New(), "", false)
	do(t, b, openAct, api.Reply{})
	stands(t, b, ledger.New(), "", true)
}

func TestOpenIgnoresItsOtherFields(t *testing.T) {
	b := down(t, 2, fundAct(0, 5))
	do(t, b, api.Act{Kind: api.ActOpen, A: -9, B: math.MinInt, C: 99, N: -1}, api.Reply{N: 1})
}

func TestWithoutPower(t *testing.T) {
	b := down(t, 4, fundAct(0, 5))
	h := b.House()
	log, _ := b.Book()
	for kind := -2; kind < 16; kind++ {
		if kind != api.ActOpen {
			doFails(t, b, api.Act{Kind: kind, A: 0, B: 1, C: 0, N: 1}, api.ErrDown)
			doFails(t, b, api.Act{Kind: kind, A: -1, B: -1, C: -1, N: -2}, api.ErrDown)
			doFails(t, b, api.Act{Kind: kind, A: bound + 1}, api.ErrDown)
		}
	}
	stands(t, b, h, log, false)
	do(t, b, openAct, api.Reply{N: 1})
	do(t, b, fundAct(0, 5), api.Reply{}) // ActFail has scheduled nothing
}

func TestFailIsNotWritten(t *testing.T) {
	b := bank.New()
	doOK(t, b, fundAct(0, 5))
	h := b.House()
	for _, n := range []int{0, 1, 5, api.MaxBook - 1, api.MaxBook} {
		do(t, b, failAct(n), api.Reply{})
		do(t, b, api.Act{Kind: api.ActFail, A: -9, B: math.MinInt, C: 99, N: n}, api.Reply{})
		stands(t, b, h, frame(t, fundAct(0, 5)), true)
	}
}

func TestFailErrors(t *testing.T) {
	b := bank.New()
	doOK(t, b, fundAct(0, 5))
	h := b.House()
	for _, n := range []int{-1, api.MaxBook + 1, 1 << 32, math.MinInt, math.MaxInt} {
		doFails(t, b, failAct(n), api.ErrRange)
	}
	stands(t, b, h, frame(t, fundAct(0, 5)), true)
	do(t, b, fundAct(0, 5), api.Reply{}) // nothing is scheduled
	doOK(t, b, failAct(2))
	doFails(t, b, failAct(-1), api.ErrRange)
	doFails(t, b, fundAct(0, 5), api.ErrDown) // it is scheduled still, as it was
	h.Accounts[0].Has = 10
	stands(t, b, h, frame(t, fundAct(0, 5), fundAct(0, 5))+frame(t, fundAct(0, 5))[:2], false)
}

func TestTheLastFailCounts(t *testing.T) {
	for _, l := range [][2]int{{0, 5}, {5, 0}, {api.MaxBook, 3}, {3, api.MaxBook}} {
		b := bank.New()
		doOK(t, b, failAct(l[0]), failAct(l[1]))
		doFails(t, b, fundAct(0, 5), api.ErrDown)
		f := frame(t, fundAct(0, 5))
		stands(t, b, ledger.New(), f[:min(l[1], len(f))], false)
	}
}

// The errors of Next come before that of Frame, which is ErrRange.
func TestErrorOrder(t *testing.T) {
	b := bank.New()
	doOK(t, b, fundAct(0, 5), payAct(0, 1, 9, 0))
	h := b.House()
	log, _ := b.Book()
	for _, far := range []int{bound + 1, -bound - 1, 1 << 40, math.MaxInt, math.MinInt} {
		doFails(t, b, api.Act{Kind: far}, api.ErrKind)
		doFails(t, b, api.Act{Kind: 12, N: far}, api.ErrKind)
		doFails(t, b, api.Act{Kind: api.ActRevoke, A: far}, api.ErrNone)
		doFails(t, b, api.Act{Kind: api.ActRevoke, A: 1, N: far}, api.ErrNone)
		doFails(t, b, api.Act{Kind: api.ActSpend, A: 1, N: 1, C: far}, api.ErrPoor)
		doFails(t, b, api.Act{Kind: api.ActPay, A: 0, B: 1, C: 0, N: far}, api.ErrRange)
		// These are possible, but cannot be written.
		doFails(t, b, api.Act{Kind: api.ActRevoke, A: 0, B: far}, api.ErrRange)
		doFails(t, b, api.Act{Kind: api.ActFund, A: 0, C: far, N: 5}, api.ErrRange)
		doFails(t, b, api.Act{Kind: api.ActClose, A: far}, api.ErrRange)
		doFails(t, b, api.Act{Kind: api.ActUntie, N: far}, api.ErrRange)
	}
	stands(t, b, h, log, true)
	do(t, b, api.Act{Kind: api.ActRevoke, A: 0, B: bound, C: -bound, N: bound}, api.Reply{})
}

func TestErrorsAreNotWritten(t *testing.T) {
	b := bank.New()
	doOK(t, b, fundAct(0, 5), payAct(0, 1, 9, 0))
	h := b.House()
	log, _ := b.Book()
	doFails(t, b, api.Act{}, api.ErrKind)
	doFails(t, b, api.Act{Kind: 12}, api.ErrKind)
	doFails(t, b, fundAct(4, 1), api.ErrRange)
	doFails(t, b, api.Act{Kind: api.ActClass, A: 0, C: 3}, api.ErrRange)
	doFails(t, b, api.Act{Kind: api.ActRevoke, A: 1}, api.ErrNone)
	doFails(t, b, api.Act{Kind: api.ActSpend, A: 0, N: 6}, api.ErrPoor)
	stands(t, b, h, log, true)
}

// wide is an act that is always possible, and whose frame has so many bytes, from 8 to 24.
func wide(t *testing.T, size int) api.Act {
	t.Helper()
	a := closeAct
	more := size - 8
	for _, field := range []*int{&a.A, &a.B, &a.C, &a.N} {
		n := min(more, 4)
		*field = []int{0, 64, 1 << 13, 1 << 20, 1 << 27}[n]
		more -= n
	}
	if len(frame(t, a)) != size {
		t.Fatalf("%+v does not have %d bytes", a, size)
	}
	return a
}

// nearlyFull has a log in which so many bytes are free.
func nearlyFull(t *testing.T, free int) *bank.Bank {
	t.Helper()
	b := bank.New()
	for rest := api.MaxBook - free; rest > 0; {
		size := min(24, rest)
		if rest > 24 && rest < 32 {
			size = 16 // so that the last one is not too short
		}
		doOK(t, b, wide(t, size))
		rest -= size
	}
	if s, _ := b.Book(); len(s) != api.MaxBook-free {
		t.Fatalf("%d bytes", len(s))
	}
	return b
}

func TestMaxBook(t *testing.T) {
	for free := range 26 {
		for size := 8; size <= 24; size++ {
			b := nearlyFull(t, free)
			h := b.House()
			log, _ := b.Book()
			if size <= free {
				do(t, b, wide(t, size), api.Reply{})
				stands(t, b, h, log+frame(t, wide(t, size)), true)
			} else {
				doFails(t, b, wide(t, size), api.ErrFull)
				stands(t, b, h, log, true)
			}
		}
	}
}

func TestFullBookComesLast(t *testing.T) {
	b := nearlyFull(t, 0)
	log, _ := b.Book()
	doFails(t, b, fundAct(0, 5), api.ErrFull)
	doFails(t, b, api.Act{Kind: 12}, api.ErrKind)
	doFails(t, b, fundAct(4, 5), api.ErrRange)
	doFails(t, b, api.Act{Kind: api.ActRevoke}, api.ErrNone)
	doFails(t, b, api.Act{Kind: api.ActSpend, N: 5}, api.ErrPoor)
	doFails(t, b, api.Act{Kind: api.ActClose, A: bound + 1}, api.ErrRange)
	stands(t, b, ledger.New(), log, true)
}

// The whole frame counts, even if only a part of it would be written; then nothing fails.
func TestFailureInAFullBook(t *testing.T) {
	b := nearlyFull(t, 10)
	log, _ := b.Book()
	do(t, b, failAct(3), api.Reply{})
	doFails(t, b, wide(t, 11), api.ErrFull)
	stands(t, b, ledger.New(), log, true)
	doFails(t, b, wide(t, 10), api.ErrDown)
	stands(t, b, ledger.New(), log+frame(t, wide(t, 10))[:3], false)
	acts, _ := book.Read(log)
	do(t, b, openAct, api.Reply{N: len(acts)})
	stands(t, b, ledger.New(), log, true)
	do(t, b, wide(t, 10), api.Reply{})
}

func TestFailureAtEveryByte(t *testing.T) {
	acts := []api.Act{payAct(0, 1, 7, 0), payAct(2, 3, 9, 1)}
	last := fundAct(0, 5000)
	f := frame(t, last)
	for _, kept := range []int{0, 1, 2, 3, 4, 5, 6, 7, len(f) - 1, len(f), len(f) + 1, 100, api.MaxBook} {
		b := bank.New()
		doOK(t, b, acts...)
		h := b.House()
		doOK(t, b, failAct(kept))
		doFails(t, b, last, api.ErrDown)
		stands(t, b, h, frame(t, acts...)+f[:min(kept, len(f))], false)
		if kept < len(f) {
			do(t, b, openAct, api.Reply{N: 2})
			stands(t, b, h, frame(t, acts...), true)
		} else {
			do(t, b, openAct, api.Reply{N: 3})
			stands(t, b, bank.Replay(append(acts, last)), frame(t, acts...)+f, true)
		}
		do(t, b, fundAct(2, 1), api.Reply{}) // no other failure is scheduled
	}
}

func TestAnErrorLeavesTheFailureScheduled(t *testing.T) {
	b := bank.New()
	doOK(t, b, failAct(6))
	doFails(t, b, api.Act{Kind: 12}, api.ErrKind)
	doFails(t, b, fundAct(4, 1), api.ErrRange)
	doFails(t, b, api.Act{Kind: api.ActClose, A: bound + 1}, api.ErrRange)
	doFails(t, b, api.Act{Kind: api.ActRevoke}, api.ErrNone)
	stands(t, b, ledger.New(), "", true)
	doFails(t, b, fundAct(1, 1), api.ErrDown)
	stands(t, b, ledger.New(), frame(t, fundAct(1, 1))[:6], false)
}

func TestFailureOfEveryKind(t *testing.T) {
	acts := []api.Act{payAct(0, 1, 7, 0), payAct(1, 0, 7, 0), fundAct(2, 9)}
	for _, last := range []api.Act{
		payAct(2, 3, 1, 0), {Kind: api.ActRevoke, A: 1}, {Kind: api.ActClass, A: 1, C: 2}, {Kind: api.ActCredit, A: 3, N: 5},
		{Kind: api.ActLimit, A: 0, B: 1, N: 5}, fundAct(0, 9), {Kind: api.ActSpend, A: 2, N: 9}, {Kind: api.ActUntie}, closeAct,
	} {
		b := bank.New()
		doOK(t, b, acts...)
		h := b.House()
		doOK(t, b, failAct(api.MaxBook))
		doFails(t, b, last, api.ErrDown)
		stands(t, b, h, frame(t, acts...)+frame(t, last), false)
		do(t, b, openAct, api.Reply{N: 4})
		want, reply := literalNext(h, last)
		if reply.Code != api.OK || sameHouse(h, want) {
			t.Fatalf("%+v does nothing", last)
		}
		stands(t, b, want, frame(t, acts...)+frame(t, last), true)
	}
}

func TestRun(t *testing.T) {
	acts := []api.Act{payAct(0, 1, 7, 0), {}, fundAct(0, 7), failAct(2), fundAct(0, 7), closeAct, openAct, openAct, payAct(1, 2, 7, 0)}
	want := []api.Reply{
		{}, {Code: api.ErrKind}, {Done: []int{0}}, {}, {Code: api.ErrDown}, {Code: api.ErrDown}, {N: 2}, {Code: api.ErrKind},
		{N: 1, Done: []int{1}},
	}
	before := slices.Clone(acts)
	for range 2 { // every run has a bank of its own
		got, err := bank.Run(acts)
		if !slices.EqualFunc(got, want, sameReply) || err != api.OK {
			t.Errorf("%+v, %d; want %+v", got, err, want)
		}
	}
	if !slices.Equal(acts, before) {
		t.Error("the list is modified")
	}
}

func TestRunOfTooManyActs(t *testing.T) {
	for length := range 300 {
		acts := slices.Repeat([]api.Act{fundAct(1, 1)}, length)
		got, err := bank.Run(acts)
		if length > api.MaxActs {
			if len(got) != 0 || err != api.ErrFull {
				t.Errorf("%d acts: %+v, %d", length, got, err)
			}
		} else if len(got) != length || err != api.OK || slices.ContainsFunc(got, func(r api.Reply) bool { return r.Code != api.OK }) {
			t.Errorf("%d acts: %+v, %d", length, got, err)
		}
	}
	if got, err := bank.Run(nil); len(got) != 0 || err != api.OK {
		t.Errorf("%+v, %d", got, err)
	}
}

// model is a bank as the chapter says, which keeps whole acts and the bytes of an incomplete frame instead of a log.
type model struct {
	house     api.House
	acts      []api.Act
	torn      string
	off       bool
	executed  int
	scheduled []int // of at most one failure
}

func (m *model) log(t *testing.T) string {
	t.Helper()
	return frame(t, m.acts...) + m.torn
}

func (m *model) do(t *testing.T, a api.Act) api.Reply {
	t.Helper()
	if m.executed == api.MaxActs {
		return api.Reply{Code: api.ErrFull}
	}
	m.executed++
	if a.Kind == api.ActOpen {
		if !m.off {
			return api.Reply{Code: api.ErrKind}
		}
		m.off, m.torn, m.house = false, "", ledger.New()
		for _, a := range m.acts {
			m.house, _ = literalNext(m.house, a)
		}
		return api.Reply{N: len(m.acts)}
	}
	if m.off {
		return api.Reply{Code: api.ErrDown}
	}
	if a.Kind == api.ActFail {
		if a.N < 0 || a.N > api.MaxBook {
			return api.Reply{Code: api.ErrRange}
		}
		m.scheduled = []int{a.N}
		return api.Reply{}
	}
	return m.write(t, a)
}

func (m *model) write(t *testing.T, a api.Act) api.Reply {
	t.Helper()
	h, r := literalNext(m.house, a)
	if r.Code != api.OK {
		return r
	}
	for _, n := range []int{a.Kind, a.A, a.B, a.C, a.N} {
		if n < -bound || n > bound {
			return api.Reply{Code: api.ErrRange}
		}
	}
	f := frame(t, a)
	if len(m.log(t)+f) > api.MaxBook {
		return api.Reply{Code: api.ErrFull}
	}
	if len(m.scheduled) == 1 {
		if n := m.scheduled[0]; n < len(f) {
			m.torn = f[:n]
		} else {
			m.acts = append(m.acts, a)
		}
		m.off, m.scheduled = true, nil
		return api.Reply{Code: api.ErrDown}
	}
	m.acts = append(m.acts, a)
	m.house = h
	return r
}

// bankAct is an act as randomAct makes them, or one that only a bank executes; long ones fill the book.
func bankAct(r *rand.Rand, long bool) api.Act {
	switch r.Intn(24) {
	case 0:
		return failAct(r.Intn(20))
	case 1:
		return failAct(numbers[r.Intn(len(numbers))])
	case 2, 3, 4:
		return openAct
	case 5:
		return api.Act{Kind: numbers[r.Intn(len(numbers))]}
	}
	if long && r.Intn(10) > 0 {
		return api.Act{Kind: api.ActUntie, A: bound - r.Intn(2), B: -bound, C: bound + r.Intn(100)/99, N: bound >> r.Intn(20)}
	}
	return randomAct(r)
}

func TestManyBanks(t *testing.T) {
	r := rand.New(rand.NewSource(10))
	codes := map[api.Errno]int{}
	for i := range 200 {
		b, m := bank.New(), model{house: ledger.New()}
		for range api.MaxActs + 3 {
			a := bankAct(r, i%4 == 0)
			want := m.do(t, a)
			do(t, b, a, want)
			codes[want.Code]++
			stands(t, b, m.house, m.log(t), !m.off)
		}
		if t.Failed() {
			t.Fatal("the first such bank")
		}
	}
	for _, code := range []api.Errno{api.OK, api.ErrKind, api.ErrRange, api.ErrNone, api.ErrFull, api.ErrPoor, api.ErrDown} {
		if codes[code] < 100 {
			t.Errorf("code %d occurs only %d times", code, codes[code])
		}
	}
}

func TestManyRuns(t *testing.T) {
	r := rand.New(rand.NewSource(11))
	for i := range 200 {
		var acts []api.Act
		for range r.Intn(api.MaxActs + 1) {
			acts = append(acts, bankAct(r, i%4 == 0))
		}
		m := model{house: ledger.New()}
		var want []api.Reply
		for _, a := range acts {
			want = append(want, m.do(t, a))
		}
		if got, err := bank.Run(acts); !slices.EqualFunc(got, want, sameReply) || err != api.OK {
			t.Errorf("Run(%+v) = %+v, %d; want %+v", acts, got, err, want)
		}
	}
}

// No money is lost, and what is settled remains settled.
func TestWhatHoldsForEveryBank(t *testing.T) {
	r := rand.New(rand.NewSource(12))
	for range 200 {
		b := bank.New()
		money := 0
		h := b.House()
		for range api.MaxActs {
			a := randomAct(r)
			reply := b.Do(a)
			if reply.Code == api.OK && a.Kind == api.ActFund {
				money += a.N
			}
			if reply.Code == api.OK && a.Kind == api.ActSpend {
				money -= a.N
			}
			x := b.House()
			if ledger.Sum(x) != money || !ledger.Good(x) {
				t.Fatalf("%+v leads to %+v, with the sum %d", a, x, money)
			}
			for n, p := range h.Pays {
				if p.State == api.Done && x.Pays[n] != p {
					t.Fatalf("%+v changes the settled payment %d", a, n)
				}
			}
			h = x
		}
	}
}
