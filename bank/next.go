package bank

import (
	"slices"

	"quittance/api"
	"quittance/knot"
	"quittance/ledger"
	"quittance/queue"
)

const (
	maxNext = 1 << 20
	fullHas = 1 << 39 // from here on a bank is not funded
	noLimit = -1
)

// step executes an act of one kind. The house is valid, and its list of payments may be modified.
// With an error, a step returns the house as it was.
type step func(h api.House, a api.Act) (api.House, api.Reply)

// Next is a house behind an act of the first nine kinds; its answer.
func Next(h api.House, a api.Act) (api.House, api.Reply) {
	h = withOwnPays(h)
	if !ledger.Good(h) {
		return h, failed(api.ErrForm)
	}
	do, known := stepOf(a.Kind)
	if !known {
		return h, failed(api.ErrKind)
	}
	return do(h, a)
}

// stepOf is the step of a kind; false if Next does not execute acts of this kind.
func stepOf(kind int) (do step, known bool) {
	switch kind {
	case api.ActPay:
		do = pay
	case api.ActRevoke:
		do = revoke
	case api.ActClass:
		do = class
	case api.ActCredit:
		do = credit
	case api.ActLimit:
		do = limit
	case api.ActFund:
		do = fund
	case api.ActSpend:
		do = spend
	case api.ActUntie:
		do = untie
	case api.ActClose:
		return closeAll, true
	default:
		return nil, false
	}
	return swept(do), true
}

// swept is a step after which everything is settled that has become possible.
func swept(do step) step {
	return func(h api.House, a api.Act) (next api.House, reply api.Reply) {
		next, reply = do(h, a)
		if reply.Code == api.OK {
			var done []int
			next, done = queue.Sweep(next)
			reply.Done = append(reply.Done, done...)
		}
		return next, reply
	}
}

func pay(h api.House, a api.Act) (api.House, api.Reply) {
	p := api.Pay{From: a.A, To: a.B, Amount: a.N, Class: a.C, State: api.Queued, Seq: h.Next}
	if !ledger.GoodPay(p) {
		return h, failed(api.ErrRange)
	}
	if len(h.Pays) >= api.MaxPays || h.Next >= maxNext {
		return h, failed(api.ErrFull)
	}
	index := len(h.Pays)
	h.Pays = append(h.Pays, p)
	h.Next++
	return h, api.Reply{N: index}
}

func revoke(h api.House, a api.Act) (api.House, api.Reply) {
	if !isQueued(h, a.A) {
		return h, failed(api.ErrNone)
	}
	h.Pays[a.A].State = api.Gone
	return h, api.Reply{}
}

func class(h api.House, a api.Act) (api.House, api.Reply) {
	if !isQueued(h, a.A) {
		return h, failed(api.ErrNone)
	}
	if !within(a.C, 0, api.MaxClass) {
		return h, failed(api.ErrRange)
	}
	if h.Next >= maxNext {
		return h, failed(api.ErrFull)
	}
	h.Pays[a.A].Class = a.C
	h.Pays[a.A].Seq = h.Next
	h.Next++
	return h, api.Reply{}
}

func credit(h api.House, a api.Act) (api.House, api.Reply) {
	if !isBank(a.A) || !within(a.N, 0, api.MaxAmount) {
		return h, failed(api.ErrRange)
	}
	h.Accounts[a.A].Credit = a.N
	return h, api.Reply{}
}

func limit(h api.House, a api.Act) (api.House, api.Reply) {
	if !isBank(a.A) || !isBank(a.B) || a.A == a.B || !within(a.N, noLimit, api.MaxAmount) {
		return h, failed(api.ErrRange)
	}
	h.Limits[a.A][a.B] = a.N
	return h, api.Reply{}
}

func fund(h api.House, a api.Act) (api.House, api.Reply) {
	if !isBank(a.A) || !within(a.N, 1, api.MaxAmount) {
		return h, failed(api.ErrRange)
	}
	if h.Accounts[a.A].Has >= fullHas {
		return h, failed(api.ErrFull)
	}
	h.Accounts[a.A].Has += a.N
	return h, api.Reply{}
}

func spend(h api.House, a api.Act) (api.House, api.Reply) {
	if !isBank(a.A) || !within(a.N, 1, api.MaxAmount) {
		return h, failed(api.ErrRange)
	}
	if ledger.Left(h, a.A) < a.N {
		return h, failed(api.ErrPoor)
	}
	h.Accounts[a.A].Has -= a.N
	return h, api.Reply{}
}

func untie(h api.House, _ api.Act) (api.House, api.Reply) {
	h, done := knot.Untie(h)
	return h, api.Reply{N: len(done), Done: done}
}

func closeAll(h api.House, _ api.Act) (api.House, api.Reply) {
	count := 0
	for i := range h.Pays {
		if isQueued(h, i) {
			h.Pays[i].State = api.Gone
			count++
		}
	}
	return h, api.Reply{N: count}
}

func failed(code api.Errno) api.Reply {
	return api.Reply{Code: code}
}

// withOwnPays is a house whose list of payments may be modified without anybody noticing.
func withOwnPays(h api.House) api.House {
	h.Pays = slices.Clone(h.Pays)
	return h
}

func isQueued(h api.House, index int) bool {
	return within(index, 0, len(h.Pays)-1) && h.Pays[index].State == api.Queued
}

func isBank(i int) bool {
	return within(i, 0, api.Banks-1)
}

func within(n, low, high int) bool {
	return low <= n && n <= high
}
