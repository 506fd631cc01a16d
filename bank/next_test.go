package bank_test

import (
	"math"
	"math/rand"
	"reflect"
	"slices"
	"testing"

	"quittance/api"
	"quittance/bank"
	"quittance/knot"
	"quittance/ledger"
	"quittance/queue"
)

const (
	lastNext = 1 << 20
	rich     = 1 << 39
)

// kinds is those that Next executes.
var kinds = []int{
	api.ActPay, api.ActRevoke, api.ActClass, api.ActCredit, api.ActLimit,
	api.ActFund, api.ActSpend, api.ActUntie, api.ActClose,
}

// numbers is ordinary ones, the bounds of the chapter with their neighbours, and those that overflow if they are added.
var numbers = []int{
	-1, 0, 1, 2, 3, 4, 5, 9, api.MaxPays - 1, api.MaxPays, api.MaxAmount - 1, api.MaxAmount, api.MaxAmount + 1,
	-2, -3, -api.MaxAmount, 1 << 30, 1<<30 + 1, -1 << 30, -1<<30 - 1, 1 << 32, 1<<32 + 1, 1 << 40, -1 << 40,
	math.MaxInt, math.MaxInt - 1, math.MinInt, math.MinInt + 1,
}

func payAct(from, to, amount, class int) api.Act {
	return api.Act{Kind: api.ActPay, A: from, B: to, C: class, N: amount}
}

func fundAct(of, amount int) api.Act {
	return api.Act{Kind: api.ActFund, A: of, N: amount}
}

// add queues a payment without a settlement.
func add(h *api.House, from, to, amount, class int) {
	h.Pays = append(h.Pays, api.Pay{From: from, To: to, Amount: amount, Class: class, State: api.Queued, Seq: h.Next})
	h.Next++
}

// copyOf shares no list with h.
func copyOf(h api.House) api.House {
	h.Pays = slices.Clone(h.Pays)
	return h
}

// sameHouse is whether houses are equal; an empty list may be nil or not.
func sameHouse(g, h api.House) bool {
	same := slices.Equal(g.Pays, h.Pays)
	g.Pays, h.Pays = nil, nil
	return same && reflect.DeepEqual(g, h)
}

func sameReply(p, q api.Reply) bool {
	return p.Code == q.Code && p.N == q.N && slices.Equal(p.Done, q.Done)
}

// mixed is valid: nobody has anything, and there are payments of all states, those of bank 0 and bank 1 queued.
func mixed() api.House {
	h := ledger.New()
	add(&h, 0, 1, 10, 1)
	add(&h, 0, 2, 20, 1)
	add(&h, 1, 2, 30, 0)
	add(&h, 2, 3, 40, 0)
	add(&h, 3, 0, 50, 2)
	h.Pays[3].State, h.Pays[4].State = api.Done, api.Gone
	return h
}

// with is mixed, changed.
func with(change func(h *api.House)) api.House {
	h := mixed()
	change(&h)
	return h
}

// checkNext compares both results of Next, and sees that the argument is not modified.
func checkNext(t *testing.T, name string, h api.House, a api.Act, want api.House, reply api.Reply) {
	t.Helper()
	before := copyOf(h)
	got, r := bank.Next(h, a)
	if !sameReply(r, reply) {
		t.Errorf("%s: %+v replies %+v, want %+v", name, a, r, reply)
	}
	if !sameHouse(got, want) {
		t.Errorf("%s: %+v leads to\n%+v, want\n%+v", name, a, got, want)
	}
	if !sameHouse(h, before) {
		t.Errorf("%s: %+v modifies its house", name, a)
	}
}

// checkError expects an error, and nothing else.
func checkError(t *testing.T, name string, h api.House, a api.Act, code api.Errno) {
	t.Helper()
	checkNext(t, name, h, a, copyOf(h), api.Reply{Code: code})
}

func TestSampleIsValidAndSettled(t *testing.T) {
	if _, done := queue.Sweep(mixed()); !ledger.Good(mixed()) || len(done) != 0 {
		t.Fatal("the tests below would say nothing")
	}
}

// invalidHouses is not valid for one reason each.
func invalidHouses() []api.House {
	var l []api.House
	for _, change := range []func(h *api.House){
		func(h *api.House) { h.Next = -1 },
		func(h *api.House) { h.Next = 4 },
		func(h *api.House) { h.Next = lastNext + 1 },
		func(h *api.House) { h.Pays[1].Seq = h.Pays[0].Seq },
		func(h *api.House) { h.Pays[1].Seq = -1 },
		func(h *api.House) { h.Pays[1].From = -1 },
		func(h *api.House) { h.Pays[1].From = api.Banks },
		func(h *api.House) { h.Pays[1].To = h.Pays[1].From },
		func(h *api.House) { h.Pays[1].Amount = 0 },
		func(h *api.House) { h.Pays[1].State = 4 },
		func(h *api.House) { h.Pays[1].Class = api.MaxClass + 1 },
		func(h *api.House) { h.Accounts[3].Has = 1<<40 + 1 },
		func(h *api.House) { h.Accounts[0].Has = math.MinInt },
		func(h *api.House) { h.Accounts[3].Credit = -1 },
		func(h *api.House) { h.Sent[2][2] = 1 },
		func(h *api.House) { h.Sent[2][3] = -1 },
		func(h *api.House) { h.Limits[2][3] = -2 },
		func(h *api.House) {
			for len(h.Pays) <= api.MaxPays {
				add(h, 0, 1, 1, 0)
			}
		},
	} {
		l = append(l, with(change))
	}
	return l
}

func TestNextOfInvalidHouses(t *testing.T) {
	others := []int{0, api.ActFail, api.ActOpen, 12, -1, math.MinInt}
	for _, h := range invalidHouses() {
		for _, kind := range slices.Concat(kinds, others) {
			checkError(t, "valid act", h, api.Act{Kind: kind, A: 0, B: 1, C: 1, N: 1}, api.ErrForm)
			checkError(t, "invalid act", h, api.Act{Kind: kind, A: 99, B: 99, C: 99, N: -99}, api.ErrForm)
		}
	}
}

func TestNextOfOtherKinds(t *testing.T) {
	for _, kind := range []int{0, -1, -8, api.ActFail, api.ActOpen, 12, 13, 256 + 1, 1<<32 + 1, math.MinInt, math.MaxInt} {
		checkError(t, "other kind", mixed(), api.Act{Kind: kind, A: 0, B: 1, C: 1, N: 1}, api.ErrKind)
		checkError(t, "other kind", mixed(), api.Act{Kind: kind, A: -1, N: -1}, api.ErrKind)
	}
}

func TestPayIsQueued(t *testing.T) {
	h := mixed()
	want := mixed()
	want.Pays = append(want.Pays, api.Pay{From: 3, To: 1, Amount: 9, Class: 2, State: api.Queued, Seq: 5})
	want.Next = 6
	checkNext(t, "behind others", h, payAct(3, 1, 9, 2), want, api.Reply{N: 5})

	want = ledger.New()
	want.Pays = []api.Pay{{From: 0, To: 1, Amount: 7, Class: 0, State: api.Queued, Seq: 0}}
	want.Next = 1
	checkNext(t, "the first", ledger.New(), payAct(0, 1, 7, 0), want, api.Reply{})
}

func TestPayTakesItsPlaceFromNext(t *testing.T) {
	h := with(func(h *api.House) { h.Next = 77 })
	want := copyOf(h)
	want.Pays = append(want.Pays, api.Pay{From: 2, To: 0, Amount: api.MaxAmount, Class: 1, State: api.Queued, Seq: 77})
	want.Next = 78
	checkNext(t, "place", h, payAct(2, 0, api.MaxAmount, 1), want, api.Reply{N: 5})
}

func TestPayIsSettledAtOnce(t *testing.T) {
	h := with(func(h *api.House) { h.Accounts[3].Has = 9 })
	want := copyOf(h)
	want.Pays = append(want.Pays, api.Pay{From: 3, To: 2, Amount: 9, Class: 0, State: api.Done, Seq: 5})
	want.Next = 6
	want.Accounts[3].Has, want.Accounts[2].Has, want.Sent[3][2] = 0, 9, 9
	checkNext(t, "at once", h, payAct(3, 2, 9, 0), want, api.Reply{N: 5, Done: []int{5}})
}

// invalidPays is acts that are no valid payments.
func invalidPays() []api.Act {
	return []api.Act{
		payAct(0, 0, 7, 0), payAct(3, 3, 7, 0), payAct(-1, 1, 7, 0), payAct(api.Banks, 1, 7, 0), payAct(1, -1, 7, 0),
		payAct(1, api.Banks, 7, 0), payAct(0, 1, 0, 0), payAct(0, 1, -7, 0), payAct(0, 1, api.MaxAmount+1, 0),
		payAct(0, 1, 7, -1), payAct(0, 1, 7, api.MaxClass+1), payAct(0, 1, math.MinInt, 0), payAct(0, 1, math.MaxInt, 0),
		payAct(math.MinInt, math.MaxInt, 7, 0), payAct(0, 1, 7, math.MaxInt),
	}
}

// full has MaxPays payments, of which the last is queued or not.
func full(last int) api.House {
	h := ledger.New()
	for range api.MaxPays {
		add(&h, 0, 1, 5, 0)
		h.Pays[len(h.Pays)-1].State = api.Gone
	}
	h.Pays[api.MaxPays-1].State = last
	return h
}

func TestPayErrors(t *testing.T) {
	noPlace := with(func(h *api.House) { h.Next = lastNext })
	for _, a := range invalidPays() {
		checkError(t, "invalid payment", mixed(), a, api.ErrRange)
		checkError(t, "invalid payment, too many", full(api.Queued), a, api.ErrRange)
		checkError(t, "invalid payment, no place", noPlace, a, api.ErrRange)
	}
	for _, state := range []int{api.Queued, api.Done, api.Gone} {
		checkError(t, "too many", full(state), payAct(2, 3, 1, 0), api.ErrFull)
	}
	checkError(t, "no place", noPlace, payAct(2, 3, 1, 0), api.ErrFull)
}

func TestPayUpToTheLimits(t *testing.T) {
	h := full(api.Queued)
	h.Pays = h.Pays[:api.MaxPays-1]
	want := copyOf(h)
	add(&want, 2, 3, 1, 0)
	checkNext(t, "the last payment", h, payAct(2, 3, 1, 0), want, api.Reply{N: api.MaxPays - 1})

	h = with(func(h *api.House) { h.Next = lastNext - 1 })
	want = copyOf(h)
	add(&want, 2, 3, 1, 0)
	checkNext(t, "the last place", h, payAct(2, 3, 1, 0), want, api.Reply{N: 5})
}

func TestRevoke(t *testing.T) {
	for n := range 3 {
		want := mixed()
		want.Pays[n].State = api.Gone
		a := api.Act{Kind: api.ActRevoke, A: n}
		checkNext(t, "revoke", mixed(), a, want, api.Reply{})
		a.B, a.C, a.N = 99, -99, math.MinInt
		checkNext(t, "fields without a meaning", mixed(), a, want, api.Reply{})
	}
}

func TestRevokeOfTheFirstFreesTheNext(t *testing.T) {
	h := with(func(h *api.House) { h.Accounts[0].Has = 9; h.Pays[1].Amount = 9 })
	want := copyOf(h)
	want.Pays[0].State, want.Pays[1].State = api.Gone, api.Done
	want.Accounts[0].Has, want.Accounts[2].Has, want.Sent[0][2] = 0, 9, 9
	checkNext(t, "revoke", h, api.Act{Kind: api.ActRevoke, A: 0}, want, api.Reply{Done: []int{1}})
}

func TestNoQueuedPayment(t *testing.T) {
	noPlace := with(func(h *api.House) { h.Next = lastNext })
	for _, n := range []int{3, 4, 5, 6, -1, api.MaxPays, 1 << 32, math.MinInt, math.MaxInt} {
		for _, h := range []api.House{mixed(), noPlace} {
			checkError(t, "revoke", h, api.Act{Kind: api.ActRevoke, A: n}, api.ErrNone)
			checkError(t, "class", h, api.Act{Kind: api.ActClass, A: n, C: 1}, api.ErrNone)
			checkError(t, "invalid class", h, api.Act{Kind: api.ActClass, A: n, C: -1}, api.ErrNone)
		}
	}
	checkError(t, "revoke", ledger.New(), api.Act{Kind: api.ActRevoke}, api.ErrNone)
	checkError(t, "class", ledger.New(), api.Act{Kind: api.ActClass}, api.ErrNone)
}

func TestClass(t *testing.T) {
	for n := range 3 {
		for class := range api.MaxClass + 1 {
			want := mixed()
			want.Pays[n].Class, want.Pays[n].Seq, want.Next = class, 5, 6
			a := api.Act{Kind: api.ActClass, A: n, C: class}
			checkNext(t, "class", mixed(), a, want, api.Reply{})
			a.B, a.N = -99, math.MaxInt
			checkNext(t, "fields without a meaning", mixed(), a, want, api.Reply{})
		}
	}
}

func TestClassMovesThePaymentBehindItsEquals(t *testing.T) {
	h := with(func(h *api.House) { h.Accounts[0].Has = 9; h.Pays[1].Amount = 9 })
	want := copyOf(h)
	want.Pays[0].Seq, want.Pays[1].State, want.Next = 5, api.Done, 6
	want.Accounts[0].Has, want.Accounts[2].Has, want.Sent[0][2] = 0, 9, 9
	checkNext(t, "the same class", h, api.Act{Kind: api.ActClass, A: 0, C: 1}, want, api.Reply{Done: []int{1}})
}

func TestClassErrors(t *testing.T) {
	noPlace := with(func(h *api.House) { h.Next = lastNext })
	for _, class := range []int{-1, api.MaxClass + 1, 1 << 32, math.MinInt, math.MaxInt} {
		a := api.Act{Kind: api.ActClass, A: 1, C: class}
		checkError(t, "no class", mixed(), a, api.ErrRange)
		checkError(t, "no class, no place", noPlace, a, api.ErrRange)
	}
	checkError(t, "no place", noPlace, api.Act{Kind: api.ActClass, A: 1, C: 1}, api.ErrFull)
	h := with(func(h *api.House) { h.Next = lastNext - 1 })
	want := copyOf(h)
	want.Pays[1].Class, want.Pays[1].Seq, want.Next = 0, lastNext-1, lastNext
	checkNext(t, "the last place", h, api.Act{Kind: api.ActClass, A: 1, C: 0}, want, api.Reply{})
}

// A house that has no place left is still of use for all acts that need none.
func TestActsWithoutAPlace(t *testing.T) {
	h := with(func(h *api.House) { h.Next = lastNext })
	for _, a := range []api.Act{
		{Kind: api.ActRevoke, A: 1}, {Kind: api.ActCredit, A: 1, N: 1}, {Kind: api.ActLimit, A: 1, B: 2, N: 1},
		{Kind: api.ActFund, A: 1, N: 1}, {Kind: api.ActUntie}, {Kind: api.ActClose},
	} {
		if _, r := bank.Next(h, a); r.Code != api.OK {
			t.Errorf("%+v replies %+v", a, r)
		}
	}
}

func TestCredit(t *testing.T) {
	for who := range api.Banks {
		for _, n := range []int{0, 1, 9} {
			h := with(func(h *api.House) { h.Accounts[who].Credit = 5; h.Accounts[who].Has = -77 })
			want := copyOf(h)
			want.Accounts[who].Credit = n
			checkNext(t, "credit", h, api.Act{Kind: api.ActCredit, A: who, N: n}, want, api.Reply{})
			checkNext(t, "fields without a meaning", h, api.Act{Kind: api.ActCredit, A: who, B: who, C: -9, N: n}, want, api.Reply{})
		}
	}
	h := ledger.New()
	want := ledger.New()
	want.Accounts[3].Credit = api.MaxAmount
	checkNext(t, "the greatest", h, api.Act{Kind: api.ActCredit, A: 3, N: api.MaxAmount}, want, api.Reply{})
}

func TestCreditAllowsPayments(t *testing.T) {
	want := mixed()
	want.Accounts[0] = api.Account{Has: -10, Credit: 10}
	want.Accounts[1].Has, want.Sent[0][1] = 10, 10
	want.Pays[0].State = api.Done
	checkNext(t, "credit", mixed(), api.Act{Kind: api.ActCredit, A: 0, N: 10}, want, api.Reply{Done: []int{0}})
	h := copyOf(want)
	want.Accounts[0].Credit = 0
	checkNext(t, "less than what is used", h, api.Act{Kind: api.ActCredit, A: 0, N: 0}, want, api.Reply{})
}

func TestLimit(t *testing.T) {
	for who := range api.Banks {
		for to := range api.Banks {
			for _, n := range []int{-1, 0, 1, api.MaxAmount} {
				a := api.Act{Kind: api.ActLimit, A: who, B: to, N: n}
				h := with(func(h *api.House) { h.Limits[who][to] = 5 })
				if who == to {
					checkError(t, "the same bank", h, a, api.ErrRange)
					continue
				}
				want := copyOf(h)
				want.Limits[who][to] = n
				checkNext(t, "limit", h, a, want, api.Reply{})
				a.C = -99
				checkNext(t, "fields without a meaning", h, a, want, api.Reply{})
			}
		}
	}
}

func TestLimitAllowsPayments(t *testing.T) {
	h := with(func(h *api.House) { h.Accounts[0].Has = 10; h.Limits[0][1] = 9 })
	want := copyOf(h)
	want.Limits[0][1], want.Pays[0].State = 10, api.Done
	want.Accounts[0].Has, want.Accounts[1].Has, want.Sent[0][1] = 0, 10, 10
	checkNext(t, "just enough", h, api.Act{Kind: api.ActLimit, A: 0, B: 1, N: 10}, want, api.Reply{Done: []int{0}})
	want.Limits[0][1] = -1
	checkNext(t, "no limit", h, api.Act{Kind: api.ActLimit, A: 0, B: 1, N: -1}, want, api.Reply{Done: []int{0}})
}

func TestFund(t *testing.T) {
	for who := range api.Banks {
		for _, has := range []int{-1 << 40, -5, 0, 5, rich - 1} {
			for _, n := range []int{1, 9, api.MaxAmount} {
				h := ledger.New()
				h.Accounts[who] = api.Account{Has: has, Credit: 3}
				want := copyOf(h)
				want.Accounts[who].Has += n
				checkNext(t, "fund", h, fundAct(who, n), want, api.Reply{})
				checkNext(t, "fields without a meaning", h, api.Act{Kind: api.ActFund, A: who, B: who, C: -9, N: n}, want, api.Reply{})
			}
		}
	}
}

func TestFundSettlesPayments(t *testing.T) {
	want := mixed()
	want.Pays[0].State = api.Done
	want.Accounts[1].Has, want.Sent[0][1] = 10, 10
	checkNext(t, "one", mixed(), fundAct(0, 10), want, api.Reply{Done: []int{0}})
	want.Accounts[0].Has = 19
	checkNext(t, "one of two", mixed(), fundAct(0, 29), want, api.Reply{Done: []int{0}})
	want.Accounts[0].Has = 0
	want.Pays[1].State, want.Accounts[2].Has, want.Sent[0][2] = api.Done, 20, 20
	checkNext(t, "two", mixed(), fundAct(0, 30), want, api.Reply{Done: []int{0, 1}})
}

func TestFundErrors(t *testing.T) {
	for who := range api.Banks {
		for _, has := range []int{rich, rich + 1, 1 << 40} {
			h := with(func(h *api.House) { h.Accounts[who].Has = has })
			checkError(t, "rich", h, fundAct(who, 1), api.ErrFull)
			checkError(t, "rich", h, fundAct(who, api.MaxAmount), api.ErrFull)
			checkError(t, "rich, no amount", h, fundAct(who, 0), api.ErrRange)
			checkError(t, "rich, no bank", h, fundAct(api.Banks, 1), api.ErrRange)
		}
	}
	// What others have, and a credit, do not count.
	h := ledger.New()
	h.Accounts[0].Has = rich
	h.Accounts[1] = api.Account{Has: rich - 1, Credit: api.MaxAmount}
	want := copyOf(h)
	want.Accounts[1].Has = rich + 1
	checkNext(t, "not rich", h, fundAct(1, 2), want, api.Reply{})
}

func TestSpend(t *testing.T) {
	h := ledger.New()
	h.Accounts = [api.Banks]api.Account{{Has: 9}, {Has: -2, Credit: 9}, {Has: 2, Credit: 3}, {Has: api.MaxAmount + 5}}
	for who, most := range []int{9, 7, 5, api.MaxAmount} {
		for _, n := range []int{1, most - 1, most} {
			want := copyOf(h)
			want.Accounts[who].Has -= n
			checkNext(t, "spend", h, api.Act{Kind: api.ActSpend, A: who, N: n}, want, api.Reply{})
			checkNext(t, "fields without a meaning", h, api.Act{Kind: api.ActSpend, A: who, B: who, C: -9, N: n}, want, api.Reply{})
		}
		code := api.ErrPoor
		if most == api.MaxAmount {
			code = api.ErrRange
		}
		checkError(t, "one more", h, api.Act{Kind: api.ActSpend, A: who, N: most + 1}, code)
	}
}

func TestSpendErrors(t *testing.T) {
	for _, a := range []api.Account{{}, {Has: -1, Credit: 1}, {Has: -1 << 40, Credit: api.MaxAmount}, {Has: -9, Credit: 3}} {
		h := with(func(h *api.House) { h.Accounts[1] = a })
		checkError(t, "nothing left", h, api.Act{Kind: api.ActSpend, A: 1, N: 1}, api.ErrPoor)
		checkError(t, "nothing left", h, api.Act{Kind: api.ActSpend, A: 1, N: api.MaxAmount}, api.ErrPoor)
	}
}

// Credit, limits, funds and expenses: who or how much is not possible.
func TestRangeErrors(t *testing.T) {
	h := mixed()
	for i := range h.Accounts {
		h.Accounts[i].Credit = 1
	}
	for _, kind := range []int{api.ActCredit, api.ActFund, api.ActSpend, api.ActLimit} {
		for _, who := range []int{-1, api.Banks, 1 << 32, math.MinInt, math.MaxInt} {
			checkError(t, "no bank", h, api.Act{Kind: kind, A: who, B: 1, N: 1}, api.ErrRange)
			if kind == api.ActLimit {
				checkError(t, "no other bank", h, api.Act{Kind: kind, A: 1, B: who, N: 1}, api.ErrRange)
				checkError(t, "no banks at all", h, api.Act{Kind: kind, A: who, B: who, N: 1}, api.ErrRange)
			}
		}
		least := map[int]int{api.ActCredit: 0, api.ActFund: 1, api.ActSpend: 1, api.ActLimit: -1}[kind]
		for _, n := range []int{least - 1, api.MaxAmount + 1, 1 << 32, math.MinInt, math.MaxInt} {
			checkError(t, "no amount", h, api.Act{Kind: kind, A: 1, B: 2, N: n}, api.ErrRange)
		}
	}
}

// ring is three banks that owe one another 9, and a payment of bank 3 that is too great.
func ring() api.House {
	h := ledger.New()
	add(&h, 2, 0, 9, 0)
	add(&h, 0, 1, 9, 0)
	add(&h, 3, 1, 5, 0)
	add(&h, 1, 2, 9, 0)
	return h
}

func TestUntie(t *testing.T) {
	want := ring()
	for _, n := range []int{0, 1, 3} {
		want.Pays[n].State = api.Done
	}
	want.Sent[2][0], want.Sent[0][1], want.Sent[1][2] = 9, 9, 9
	reply := api.Reply{N: 3, Done: []int{1, 3, 0}}
	checkNext(t, "untie", ring(), api.Act{Kind: api.ActUntie}, want, reply)
	checkNext(t, "fields without a meaning", ring(), api.Act{Kind: api.ActUntie, A: -9, B: 99, C: -9, N: math.MinInt}, want, reply)
	checkNext(t, "nothing more", want, api.Act{Kind: api.ActUntie}, want, api.Reply{})
	checkNext(t, "nothing", ledger.New(), api.Act{Kind: api.ActUntie}, ledger.New(), api.Reply{})
}

// Bank 3 has gone beyond a limit, so that it may settle nothing together with others, but may pay somebody else alone.
func TestUntieIsFollowedByASweep(t *testing.T) {
	h := ring()
	h.Accounts[3].Has, h.Sent[3][0], h.Limits[3][0] = 5, 8, 7
	want := copyOf(h)
	for n := range want.Pays {
		want.Pays[n].State = api.Done
	}
	want.Sent[2][0], want.Sent[0][1], want.Sent[1][2], want.Sent[3][1] = 9, 9, 9, 5
	want.Accounts[3].Has, want.Accounts[1].Has = 0, 5
	checkNext(t, "sweep", h, api.Act{Kind: api.ActUntie}, want, api.Reply{N: 3, Done: []int{1, 3, 0, 2}})
}

// unswept has a payment of bank 3, the last, that is possible and has not been settled yet.
func unswept() api.House {
	h := mixed()
	h.Pays = slices.Delete(h.Pays, 4, 5)
	h.Accounts[3].Has, h.Accounts[2].Has = 5, 1
	h.Limits[3][0], h.Sent[3][0] = 1, 2 // not together with others
	add(&h, 3, 1, 5, 2)
	return h
}

// afterSweep is unswept, swept.
func afterSweep() api.House {
	h := unswept()
	h.Accounts[3].Has, h.Accounts[1].Has, h.Sent[3][1] = 0, 5, 5
	h.Pays[4].State = api.Done
	return h
}

func TestEveryActIsFollowedByASweep(t *testing.T) {
	for _, c := range []struct {
		a      api.Act
		change func(h *api.House)
		n      int
	}{
		{payAct(0, 1, 9, 2), func(h *api.House) { add(h, 0, 1, 9, 2) }, 5},
		{api.Act{Kind: api.ActRevoke, A: 1}, func(h *api.House) { h.Pays[1].State = api.Gone }, 0},
		{api.Act{Kind: api.ActClass, A: 1, C: 2}, func(h *api.House) { h.Pays[1].Class, h.Pays[1].Seq = 2, h.Next; h.Next++ }, 0},
		{api.Act{Kind: api.ActCredit, A: 2, N: 4}, func(h *api.House) { h.Accounts[2].Credit = 4 }, 0},
		{api.Act{Kind: api.ActLimit, A: 2, B: 3, N: 4}, func(h *api.House) { h.Limits[2][3] = 4 }, 0},
		{fundAct(2, 4), func(h *api.House) { h.Accounts[2].Has += 4 }, 0},
		{api.Act{Kind: api.ActSpend, A: 2, N: 1}, func(h *api.House) { h.Accounts[2].Has-- }, 0},
		{api.Act{Kind: api.ActUntie}, func(h *api.House) {}, 0},
	} {
		want := afterSweep()
		c.change(&want)
		checkNext(t, "sweep", unswept(), c.a, want, api.Reply{N: c.n, Done: []int{4}})
	}
}

func TestAnErrorIsNotFollowedByASweep(t *testing.T) {
	for _, kind := range kinds {
		if kind != api.ActUntie && kind != api.ActClose {
			h := unswept()
			got, r := bank.Next(h, api.Act{Kind: kind, A: -1, B: -1, C: -1, N: -2})
			if r.Code == api.OK || r.N != 0 || len(r.Done) != 0 || !sameHouse(got, unswept()) {
				t.Errorf("kind %d: %+v %+v", kind, r, got)
			}
		}
	}
	checkError(t, "other kind", unswept(), api.Act{Kind: api.ActFail}, api.ErrKind)
}

func TestClose(t *testing.T) {
	want := mixed()
	for n := range 3 {
		want.Pays[n].State = api.Gone
	}
	checkNext(t, "close", mixed(), api.Act{Kind: api.ActClose}, want, api.Reply{N: 3})
	checkNext(t, "fields without a meaning", mixed(), api.Act{Kind: api.ActClose, A: -9, B: 99, C: -9, N: math.MinInt}, want, api.Reply{N: 3})
	checkNext(t, "nothing more", want, api.Act{Kind: api.ActClose}, want, api.Reply{})
	checkNext(t, "nothing", ledger.New(), api.Act{Kind: api.ActClose}, ledger.New(), api.Reply{})
}

func TestCloseSettlesNothing(t *testing.T) {
	want := unswept()
	for _, n := range []int{0, 1, 2, 4} {
		want.Pays[n].State = api.Gone
	}
	checkNext(t, "close", unswept(), api.Act{Kind: api.ActClose}, want, api.Reply{N: 4})
}

// literalStep is what an act itself does, as P5.1 to P5.4 say it, in the list that it gets.
func literalStep(h *api.House, a api.Act) api.Reply {
	bankA := a.A >= 0 && a.A < api.Banks
	bankB := a.B >= 0 && a.B < api.Banks
	queued := a.A >= 0 && a.A < len(h.Pays) && h.Pays[a.A].State == api.Queued
	has := 0
	if bankA {
		has = h.Accounts[a.A].Has
	}
	switch a.Kind {
	case api.ActPay:
		if !bankA || !bankB || a.A == a.B || a.N < 1 || a.N > api.MaxAmount || a.C < 0 || a.C > api.MaxClass {
			return api.Reply{Code: api.ErrRange}
		}
		if len(h.Pays) == api.MaxPays || h.Next == lastNext {
			return api.Reply{Code: api.ErrFull}
		}
		add(h, a.A, a.B, a.N, a.C)
		return api.Reply{N: len(h.Pays) - 1}
	case api.ActRevoke:
		if !queued {
			return api.Reply{Code: api.ErrNone}
		}
		h.Pays[a.A].State = api.Gone
	case api.ActClass:
		if !queued {
			return api.Reply{Code: api.ErrNone}
		}
		if a.C < 0 || a.C > api.MaxClass {
			return api.Reply{Code: api.ErrRange}
		}
		if h.Next == lastNext {
			return api.Reply{Code: api.ErrFull}
		}
		h.Pays[a.A].Class, h.Pays[a.A].Seq = a.C, h.Next
		h.Next++
	case api.ActCredit:
		if !bankA || a.N < 0 || a.N > api.MaxAmount {
			return api.Reply{Code: api.ErrRange}
		}
		h.Accounts[a.A].Credit = a.N
	case api.ActLimit:
		if !bankA || !bankB || a.A == a.B || a.N < -1 || a.N > api.MaxAmount {
			return api.Reply{Code: api.ErrRange}
		}
		h.Limits[a.A][a.B] = a.N
	case api.ActFund:
		if !bankA || a.N < 1 || a.N > api.MaxAmount {
			return api.Reply{Code: api.ErrRange}
		}
		if has >= rich {
			return api.Reply{Code: api.ErrFull}
		}
		h.Accounts[a.A].Has += a.N
	case api.ActSpend:
		if !bankA || a.N < 1 || a.N > api.MaxAmount {
			return api.Reply{Code: api.ErrRange}
		}
		if has+h.Accounts[a.A].Credit < a.N {
			return api.Reply{Code: api.ErrPoor}
		}
		h.Accounts[a.A].Has -= a.N
	case api.ActUntie:
		var done []int
		*h, done = knot.Untie(*h)
		return api.Reply{N: len(done), Done: done}
	case api.ActClose:
		n := 0
		for i, p := range h.Pays {
			if p.State == api.Queued {
				h.Pays[i].State = api.Gone
				n++
			}
		}
		return api.Reply{N: n}
	default:
		return api.Reply{Code: api.ErrKind}
	}
	return api.Reply{}
}

// literalNext is Next as the chapter says.
func literalNext(h api.House, a api.Act) (api.House, api.Reply) {
	if !ledger.Good(h) {
		return h, api.Reply{Code: api.ErrForm}
	}
	x := copyOf(h)
	r := literalStep(&x, a)
	if r.Code != api.OK {
		return h, r
	}
	if a.Kind == api.ActClose {
		return x, r
	}
	x, done := queue.Sweep(x)
	r.Done = append(r.Done, done...)
	return x, r
}

// randomAct is mostly valid in a house whose banks have little.
func randomAct(r *rand.Rand) api.Act {
	a := api.Act{Kind: 1 + r.Intn(len(kinds)), A: r.Intn(api.Banks), B: r.Intn(api.Banks), C: r.Intn(api.MaxClass + 1), N: r.Intn(12)}
	switch r.Intn(12) {
	case 0:
		a.N = numbers[r.Intn(len(numbers))]
	case 1:
		a.A = numbers[r.Intn(len(numbers))]
	case 2:
		a.B = numbers[r.Intn(len(numbers))]
	case 3:
		a.C = numbers[r.Intn(len(numbers))]
	}
	switch a.Kind {
	case api.ActRevoke, api.ActClass:
		a.A = r.Intn(api.MaxPays)
	case api.ActClose, api.ActUntie:
		if r.Intn(4) > 0 { // else there would be little to wait for
			a.Kind = api.ActPay
		}
	}
	return a
}

// randomHouse is valid, and not always swept.
func randomHouse(r *rand.Rand) api.House {
	h := ledger.New()
	for i := range api.Banks {
		h.Accounts[i] = api.Account{Has: r.Intn(12) - 4, Credit: r.Intn(4)}
		if r.Intn(10) == 0 {
			h.Accounts[i].Has = []int{rich - 1, rich, 1 << 40, -1 << 40}[r.Intn(4)]
		}
		for k := range api.Banks {
			if i != k {
				h.Sent[i][k] = r.Intn(6)
				h.Limits[i][k] = r.Intn(20) - 1
			}
		}
	}
	for range []int{r.Intn(8), r.Intn(api.MaxPays + 1), api.MaxPays}[r.Intn(3)] {
		from := r.Intn(api.Banks)
		add(&h, from, (from+1+r.Intn(api.Banks-1))%api.Banks, 1+r.Intn(9), r.Intn(api.MaxClass+1))
		h.Pays[len(h.Pays)-1].State = []int{api.Queued, api.Queued, api.Queued, api.Done, api.Gone}[r.Intn(5)]
	}
	r.Shuffle(len(h.Pays), func(i, k int) { h.Pays[i], h.Pays[k] = h.Pays[k], h.Pays[i] })
	if r.Intn(10) == 0 {
		h.Next = lastNext - r.Intn(2)
	}
	return h
}

func TestNextOfManyHouses(t *testing.T) {
	r := rand.New(rand.NewSource(7))
	codes := map[api.Errno]int{}
	for range 30000 {
		h, a := randomHouse(r), randomAct(r)
		want, reply := literalNext(h, a)
		checkNext(t, "random", h, a, want, reply)
		codes[reply.Code]++
	}
	for _, code := range []api.Errno{api.OK, api.ErrRange, api.ErrNone, api.ErrFull, api.ErrPoor} {
		if codes[code] < 100 {
			t.Errorf("code %d occurs only %d times", code, codes[code])
		}
	}
}

func TestNextOfExtremeNumbers(t *testing.T) {
	h := mixed()
	h.Accounts[0].Has, h.Accounts[1].Credit = 1<<40, api.MaxAmount
	for _, kind := range slices.Concat(kinds, numbers, []int{api.ActFail, api.ActOpen, 12}) {
		for _, n := range numbers {
			for _, m := range numbers {
				for _, a := range []api.Act{{A: n, B: m, C: 1, N: 1}, {A: 1, B: 2, C: n, N: m}, {A: n, B: 1, C: 1, N: m}, {A: n, B: n, C: m, N: m}} {
					a.Kind = kind
					want, reply := literalNext(h, a)
					checkNext(t, "extreme", h, a, want, reply)
				}
			}
		}
	}
}

// Neither the list nor what lies behind its end may change, and the result belongs to the caller.
func TestNextSharesNothing(t *testing.T) {
	r := rand.New(rand.NewSource(8))
	for range 20000 {
		h := randomHouse(r)
		space := append(copyOf(h).Pays, api.Pay{Seq: -5}, api.Pay{Seq: -6}, api.Pay{Seq: -7})
		h.Pays = space[:len(h.Pays)]
		before := slices.Clone(space)
		x, reply := bank.Next(h, randomAct(r))
		for i := range x.Pays {
			x.Pays[i] = api.Pay{Seq: -8}
		}
		_ = append(x.Pays, api.Pay{Seq: -9})
		for i := range reply.Done {
			reply.Done[i] = -9
		}
		if !slices.Equal(space, before) {
			t.Fatalf("%+v, before %+v", space, before)
		}
	}
}

func TestReplay(t *testing.T) {
	if got := bank.Replay(nil); !sameHouse(got, ledger.New()) {
		t.Errorf("%+v", got)
	}
	if got := bank.Replay([]api.Act{}); !sameHouse(got, ledger.New()) {
		t.Errorf("%+v", got)
	}
	got := bank.Replay([]api.Act{payAct(0, 1, 7, 0), fundAct(0, 9), payAct(1, 2, 8, 1), {Kind: api.ActLimit, A: 2, B: 3, N: 6}})
	want := ledger.New()
	want.Accounts[0].Has, want.Accounts[1].Has, want.Sent[0][1], want.Limits[2][3] = 2, 7, 7, 6
	want.Pays = []api.Pay{
		{From: 0, To: 1, Amount: 7, State: api.Done, Seq: 0},
		{From: 1, To: 2, Amount: 8, Class: 1, State: api.Queued, Seq: 1},
	}
	want.Next = 2
	if !sameHouse(got, want) {
		t.Errorf("%+v, want %+v", got, want)
	}
}

func TestReplayPassesOverErrors(t *testing.T) {
	good := []api.Act{fundAct(0, 9), payAct(0, 1, 7, 0), payAct(2, 3, 7, 0)}
	bad := []api.Act{
		{}, {Kind: 12}, {Kind: -1}, {Kind: api.ActFail}, {Kind: api.ActOpen}, fundAct(0, 0), payAct(1, 1, 1, 0),
		{Kind: api.ActRevoke, A: 9}, {Kind: api.ActSpend, A: 3, N: 1}, fundAct(math.MinInt, math.MaxInt),
	}
	var acts []api.Act
	for _, a := range good {
		acts = append(append(acts, bad...), a)
	}
	acts = append(acts, bad...)
	before := slices.Clone(acts)
	if got, want := bank.Replay(acts), bank.Replay(good); !sameHouse(got, want) || want.Accounts[0].Has != 2 || len(want.Pays) != 2 {
		t.Errorf("%+v, want %+v", got, want)
	}
	if !slices.Equal(acts, before) {
		t.Error("the list is modified")
	}
}

// A list may be longer than what a bank executes.
func TestReplayOfManyActs(t *testing.T) {
	r := rand.New(rand.NewSource(9))
	for length := range 300 {
		var acts []api.Act
		want := ledger.New()
		for range length {
			a := randomAct(r)
			acts = append(acts, a)
			want, _ = literalNext(want, a)
		}
		if got := bank.Replay(acts); !sameHouse(got, want) {
			t.Errorf("%d acts: %+v, want %+v", length, got, want)
		}
	}
	acts := slices.Repeat([]api.Act{fundAct(3, 2)}, 5000)
	if got := bank.Replay(acts); got.Accounts[3].Has != 10000 {
		t.Errorf("%+v", got)
	}
}
