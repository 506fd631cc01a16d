package queue

import (
	"math"
	"math/rand"
	"reflect"
	"slices"
	"testing"

	"quittance/api"
	"quittance/ledger"
)

// add queues a payment with the next place.
func add(h *api.House, from, to, amount, class int) {
	h.Pays = append(h.Pays, api.Pay{From: from, To: to, Amount: amount, Class: class, State: api.Queued, Seq: h.Next})
	h.Next++
}

// houseOf is a house of queued payments of class 0, each from, to, amount.
func houseOf(pays ...[3]int) api.House {
	h := ledger.New()
	for _, p := range pays {
		add(&h, p[0], p[1], p[2], 0)
	}
	return h
}

// copyOf shares no list with h.
func copyOf(h api.House) api.House {
	h.Pays = slices.Clone(h.Pays)
	return h
}

// sample has payments of every state, class and bank, not in the order of their places.
func sample() api.House {
	h := ledger.New()
	for i := range api.Banks {
		h.Accounts[i] = api.Account{Has: 100 * (i + 1), Credit: 10 * (i + 1)}
	}
	h.Sent[0][1], h.Sent[1][0] = 40, 30
	h.Limits[0][1] = 15
	h.Pays = []api.Pay{
		{From: 0, To: 1, Amount: 5, Class: 1, State: api.Queued, Seq: 8},
		{From: 0, To: 2, Amount: 6, Class: 1, State: api.Queued, Seq: 2},
		{From: 0, To: 3, Amount: 7, Class: 0, State: api.Done, Seq: 0},
		{From: 0, To: 1, Amount: 8, Class: 2, State: api.Queued, Seq: 1},
		{From: 1, To: 0, Amount: 9, Class: 0, State: api.Queued, Seq: 4},
		{From: 0, To: 2, Amount: 10, Class: 0, State: api.Queued, Seq: 9},
		{From: 0, To: 3, Amount: 11, Class: 0, State: api.Gone, Seq: 3},
		{From: 3, To: 0, Amount: 12, Class: 2, State: api.Queued, Seq: 5},
		{From: 0, To: 3, Amount: 13, Class: 2, State: api.Queued, Seq: 7},
		{From: 3, To: 2, Amount: 14, Class: 1, State: api.Queued, Seq: 6},
	}
	h.Next = 10
	return h
}

func TestSampleIsValid(t *testing.T) {
	if !ledger.Good(sample()) {
		t.Fatal("the tests below would say nothing")
	}
}

func TestOf(t *testing.T) {
	for bank, want := range [][]int{{5, 1, 0, 3, 8}, {4}, {}, {9, 7}} {
		if got := Of(sample(), bank); !slices.Equal(got, want) {
			t.Errorf("Of(%d) = %v, want %v", bank, got, want)
		}
	}
}

func TestOfIsOrderedByPlaceNotByNumber(t *testing.T) {
	h := ledger.New()
	for range api.MaxPays {
		add(&h, 2, 0, 1, 1)
	}
	slices.Reverse(h.Pays)
	got := Of(h, 2)
	if len(got) != api.MaxPays {
		t.Fatalf("%v", got)
	}
	for i, n := range got {
		if n != api.MaxPays-1-i {
			t.Errorf("%v", got)
		}
	}
}

func TestOfIsOrderedByClassBeforePlace(t *testing.T) {
	h := ledger.New()
	for _, class := range []int{2, 1, 0, 2, 1, 0} {
		add(&h, 1, 0, 1, class)
	}
	if got := Of(h, 1); !slices.Equal(got, []int{2, 5, 1, 4, 0, 3}) {
		t.Errorf("%v", got)
	}
}

func TestOfNoBank(t *testing.T) {
	h := sample()
	// Even a house that is not valid has no payments of a bank that does not exist.
	h.Pays[0].From, h.Pays[1].From = -1, api.Banks
	for _, bank := range []int{math.MinInt, -1, api.Banks, math.MaxInt} {
		if got := Of(h, bank); len(got) != 0 {
			t.Errorf("Of(%d) = %v", bank, got)
		}
	}
	if len(Of(ledger.New(), 0)) != 0 {
		t.Error("a new house has a payment")
	}
}

func TestSettle(t *testing.T) {
	for n, p := range sample().Pays {
		if p.State != api.Queued {
			continue
		}
		want := sample()
		want.Accounts[p.From].Has -= p.Amount
		want.Accounts[p.To].Has += p.Amount
		want.Sent[p.From][p.To] += p.Amount
		want.Pays[n].State = api.Done
		if got := Settle(sample(), n); !reflect.DeepEqual(got, want) {
			t.Errorf("Settle(%d) = %+v, want %+v", n, got, want)
		}
	}
}

func TestSettleIgnoresFundsLimitsAndOrder(t *testing.T) {
	h := houseOf([3]int{0, 1, 3}, [3]int{0, 1, 7})
	h.Limits[0][1] = 0
	x := Settle(h, 1)
	if x.Accounts[0].Has != -7 || x.Accounts[1].Has != 7 || x.Sent[0][1] != 7 {
		t.Errorf("%+v", x)
	}
	if x.Pays[0].State != api.Queued || x.Pays[1].State != api.Done {
		t.Errorf("%+v", x.Pays)
	}
}

func TestSettleOfNothingQueued(t *testing.T) {
	none := len(sample().Pays)
	for _, n := range []int{math.MinInt, -1, none, none + 1, math.MaxInt, 2, 6} {
		if got := Settle(sample(), n); !reflect.DeepEqual(got, sample()) {
			t.Errorf("Settle(%d) = %+v", n, got)
		}
	}
	if got := Settle(ledger.New(), 0); !reflect.DeepEqual(got, ledger.New()) {
		t.Errorf("%+v", got)
	}
	once := Settle(sample(), 0)
	if twice := Settle(once, 0); !reflect.DeepEqual(twice, once) {
		t.Errorf("settled twice: %+v", twice)
	}
}

// sweepCase: who has what, who pays what, which payments are settled in which order.
type sweepCase struct {
	name string
	has  [api.Banks]int
	pays [][3]int
	want []int
}

func sweepCases() []sweepCase {
	return []sweepCase{
		{"no payment", [4]int{5, 5, 5, 5}, nil, nil},
		{"just enough", [4]int{7}, [][3]int{{0, 1, 7}}, []int{0}},
		{"one too few", [4]int{6}, [][3]int{{0, 1, 7}}, nil},
		{"the first holds up the others", [4]int{6}, [][3]int{{0, 1, 7}, {0, 1, 1}, {0, 2, 1}}, nil},
		{"up to the first impossible one", [4]int{6}, [][3]int{{0, 1, 2}, {0, 2, 3}, {0, 3, 2}, {0, 1, 1}}, []int{0, 1}},
		{"a later bank in the same pass", [4]int{7}, [][3]int{{2, 3, 7}, {1, 2, 7}, {0, 1, 7}}, []int{2, 1, 0}},
		{"an earlier bank in the next pass", [4]int{0, 0, 0, 7}, [][3]int{{0, 1, 7}, {1, 2, 7}, {3, 0, 7}}, []int{2, 0, 1}},
		{"one pass for each bank", [4]int{0, 0, 0, 7}, [][3]int{{0, 1, 7}, {1, 0, 7}, {2, 1, 7}, {3, 2, 7}}, []int{3, 2, 1, 0}},
		{"all banks before bank 0 again", [4]int{0, 5, 1}, [][3]int{{0, 3, 5}, {1, 0, 5}, {2, 3, 1}}, []int{1, 2, 0}},
		{"all of a bank before the next bank", [4]int{2, 1}, [][3]int{{0, 2, 1}, {1, 2, 1}, {0, 3, 1}}, []int{0, 2, 1}},
		{"a bank goes on in the next pass", [4]int{2}, [][3]int{{0, 1, 2}, {0, 2, 2}, {0, 3, 2}, {1, 0, 2}, {2, 0, 2}}, []int{0, 3, 1, 4, 2}},
		{"a ring with nothing", [4]int{}, [][3]int{{0, 1, 9}, {1, 2, 9}, {2, 0, 9}}, nil},
	}
}

func TestSweepOrder(t *testing.T) {
	for _, c := range sweepCases() {
		h := houseOf(c.pays...)
		for i, n := range c.has {
			h.Accounts[i].Has = n
		}
		x, done := Sweep(h)
		if !slices.Equal(done, c.want) {
			t.Errorf("%s: %v, want %v", c.name, done, c.want)
		}
		want := copyOf(h)
		for _, n := range c.want {
			p := &want.Pays[n]
			want.Accounts[p.From].Has -= p.Amount
			want.Accounts[p.To].Has += p.Amount
			want.Sent[p.From][p.To] += p.Amount
			p.State = api.Done
		}
		if !reflect.DeepEqual(x, want) {
			t.Errorf("%s: %+v, want %+v", c.name, x, want)
		}
	}
}

func TestSweepFollowsClasses(t *testing.T) {
	h := ledger.New()
	add(&h, 0, 1, 1, 2)
	add(&h, 0, 1, 2, 1)
	add(&h, 0, 1, 4, 0)
	h.Accounts[0].Has = 6
	if _, done := Sweep(h); !slices.Equal(done, []int{2, 1}) {
		t.Errorf("%v", done)
	}
	h.Accounts[0].Has = 3
	if _, done := Sweep(h); len(done) != 0 {
		t.Errorf("payments of later classes overtake the first: %v", done)
	}
}

func TestSweepUsesCredit(t *testing.T) {
	h := houseOf([3]int{1, 2, 5}, [3]int{1, 2, 1})
	h.Accounts[1] = api.Account{Has: -2, Credit: 7}
	x, done := Sweep(h)
	if !slices.Equal(done, []int{0}) || x.Accounts[1].Has != -7 || x.Accounts[2].Has != 5 {
		t.Errorf("%v %+v", done, x)
	}
}

func TestSweepWaitsForLimits(t *testing.T) {
	h := houseOf([3]int{0, 1, 6}, [3]int{1, 0, 1})
	h.Accounts[0].Has = 6
	h.Limits[0][1] = 5
	if _, done := Sweep(h); len(done) != 0 {
		t.Errorf("the limit is exceeded: %v", done)
	}
	h.Accounts[1].Has = 1
	if _, done := Sweep(h); !slices.Equal(done, []int{1, 0}) {
		t.Errorf("what bank 1 has sent does not count: %v", done)
	}
}

func TestSweepSkipsWhatIsNotQueued(t *testing.T) {
	h := houseOf([3]int{0, 1, 100}, [3]int{0, 1, 100}, [3]int{0, 1, 3})
	h.Pays[0].State, h.Pays[1].State = api.Done, api.Gone
	h.Accounts[0].Has = 3
	x, done := Sweep(h)
	if !slices.Equal(done, []int{2}) || x.Accounts[1].Has != 3 || x.Pays[1].State != api.Gone {
		t.Errorf("%v %+v", done, x)
	}
}

// The requirement of a valid house is about the argument, not about the houses in between.
func TestSweepGoesOnBeyondTheBounds(t *testing.T) {
	h := houseOf([3]int{0, 1, 1}, [3]int{0, 1, 2})
	h.Accounts[0].Has, h.Accounts[1].Has, h.Sent[0][1] = 3, 1<<40, 1<<40
	if x, done := Sweep(h); !slices.Equal(done, []int{0, 1}) || x.Accounts[1].Has != 1<<40+3 {
		t.Errorf("%v %+v", done, x)
	}
}

// invalidHouses would settle a payment if they were valid.
func invalidHouses() []api.House {
	var l []api.House
	for _, change := range []func(h *api.House){
		func(h *api.House) { h.Next = -1 },
		func(h *api.House) { h.Next = 1 },
		func(h *api.House) { h.Next = 1<<20 + 1 },
		func(h *api.House) { h.Pays[1].Seq = 0 },
		func(h *api.House) { h.Pays[1].To = h.Pays[1].From },
		func(h *api.House) { h.Pays[1].Amount = 0 },
		func(h *api.House) { h.Pays[1].State = 0 },
		func(h *api.House) { h.Pays[1].Class = api.MaxClass + 1 },
		func(h *api.House) { h.Accounts[3].Has = 1<<40 + 1 },
		func(h *api.House) { h.Accounts[3].Credit = -1 },
		func(h *api.House) { h.Sent[2][2] = 1 },
		func(h *api.House) { h.Limits[2][3] = -2 },
		func(h *api.House) {
			for len(h.Pays) <= api.MaxPays {
				add(h, 0, 1, 1, 0)
			}
		},
	} {
		h := houseOf([3]int{0, 1, 1}, [3]int{0, 1, 1})
		h.Accounts[0].Has = 9
		change(&h)
		l = append(l, h)
	}
	return l
}

func TestSweepOfInvalidHouses(t *testing.T) {
	for i, h := range invalidHouses() {
		x, done := Sweep(h)
		if len(done) != 0 || !reflect.DeepEqual(x, h) {
			t.Errorf("%d: %v %+v, want %+v", i, done, x, h)
		}
	}
}

// randomHouse is valid, and tight enough that some payments are possible and some are not.
func randomHouse(r *rand.Rand) api.House {
	h := ledger.New()
	for i := range api.Banks {
		h.Accounts[i] = api.Account{Has: r.Intn(12) - 3, Credit: r.Intn(5)}
		for k := range api.Banks {
			if i != k {
				h.Sent[i][k] = r.Intn(6)
			}
			h.Limits[i][k] = r.Intn(16) - 1
		}
	}
	for range r.Intn(api.MaxPays + 1) {
		from := r.Intn(api.Banks)
		to := (from + 1 + r.Intn(api.Banks-1)) % api.Banks
		add(&h, from, to, 1+r.Intn(9), r.Intn(api.MaxClass+1))
		h.Pays[len(h.Pays)-1].State = []int{api.Queued, api.Queued, api.Queued, api.Done, api.Gone}[r.Intn(5)]
	}
	r.Shuffle(len(h.Pays), func(i, k int) { h.Pays[i], h.Pays[k] = h.Pays[k], h.Pays[i] })
	return h
}

// first is the queued payment of a bank that comes before all others, or -1.
func first(h api.House, bank int) int {
	best := -1
	for n, p := range h.Pays {
		if p.From != bank || p.State != api.Queued {
			continue
		}
		if best < 0 || p.Class < h.Pays[best].Class || p.Class == h.Pays[best].Class && p.Seq < h.Pays[best].Seq {
			best = n
		}
	}
	return best
}

// plainSweep does literally what P2.3 says, without queue's functions.
func plainSweep(h api.House) (api.House, []int) {
	h = copyOf(h)
	var done []int
	for again := true; again; {
		again = false
		for bank := range api.Banks {
			for {
				n := first(h, bank)
				if n < 0 || !ledger.May(h, h.Pays[n].From, h.Pays[n].To, h.Pays[n].Amount) {
					break
				}
				h = ledger.Move(h, h.Pays[n].From, h.Pays[n].To, h.Pays[n].Amount)
				h.Pays[n].State = api.Done
				done = append(done, n)
				again = true
			}
		}
	}
	return h, done
}

func TestSweepOfManyHouses(t *testing.T) {
	r := rand.New(rand.NewSource(1))
	for range 5000 {
		h := randomHouse(r)
		before := copyOf(h)
		x, done := Sweep(h)
		want, wantDone := plainSweep(h)
		if !slices.Equal(done, wantDone) || !reflect.DeepEqual(x, want) {
			t.Fatalf("Sweep(%+v)\n= %+v %v\nwant %+v %v", h, x, done, want, wantDone)
		}
		if !reflect.DeepEqual(h, before) {
			t.Fatalf("the argument is changed: %+v", before)
		}
		if ledger.Sum(x) != ledger.Sum(h) {
			t.Fatalf("money is lost or made: %+v", h)
		}
		if y, more := Sweep(x); len(more) != 0 || !reflect.DeepEqual(y, x) {
			t.Fatalf("a second sweep settles %v of %+v", more, x)
		}
	}
}

func TestListsAreNotModified(t *testing.T) {
	for spare := range 3 {
		whole := slices.Grow(sample().Pays, spare)
		whole = whole[:cap(whole)]
		before := slices.Clone(whole)
		h := sample()
		h.Pays = whole[:len(h.Pays)]
		Of(h, 0)
		for n := range h.Pays {
			Settle(h, n)
		}
		if _, done := Sweep(h); len(done) == 0 {
			t.Error("nothing is settled")
		}
		if !slices.Equal(whole, before) {
			t.Errorf("%+v", whole)
		}
	}
}

func TestHousesOfResultsAreIndependent(t *testing.T) {
	h := sample()
	x := Settle(h, 0)
	y := Settle(x, 1)
	if h.Pays[0].State != api.Queued || x.Pays[1].State != api.Queued || y.Pays[0].State != api.Done {
		t.Error("a later settlement shows in an earlier house")
	}
}

func TestNothingPanics(t *testing.T) {
	wild := sample()
	wild.Accounts[0] = api.Account{Has: math.MaxInt, Credit: math.MaxInt}
	wild.Sent[0][1], wild.Sent[1][0] = math.MaxInt, math.MinInt
	wild.Next = math.MinInt
	for _, p := range []api.Pay{{}, {From: -1, To: api.Banks}, {From: math.MaxInt, To: math.MinInt, Amount: math.MinInt}} {
		p.State = api.Queued
		wild.Pays = append(wild.Pays, p)
	}
	long := ledger.New()
	long.Pays = make([]api.Pay, 1000)
	for _, h := range append(invalidHouses(), api.House{}, wild, long) {
		Sweep(h)
		for _, n := range []int{math.MinInt, -1, 0, 1, api.Banks, len(h.Pays) - 1, len(h.Pays), math.MaxInt} {
			Of(h, n)
			Settle(h, n)
		}
	}
}
