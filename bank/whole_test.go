package bank_test

import (
	"testing"

	"quittance/api"
	"quittance/bank"
	"quittance/ledger"
)

// The tests of this file are the section 'Examples of the whole' of DOC.md.

func TestExampleOfFunds(t *testing.T) {
	b := bank.New()
	do(t, b, payAct(0, 1, 7, 0), api.Reply{N: 0})
	if h := b.House(); h.Pays[0].State != api.Queued || h.Accounts[1].Has != 0 {
		t.Errorf("%+v", h)
	}
	do(t, b, fundAct(0, 7), api.Reply{Done: []int{0}})
	if h := b.House(); h.Pays[0].State != api.Done || h.Accounts[0].Has != 0 || h.Accounts[1].Has != 7 {
		t.Errorf("%+v", h)
	}
}

func TestExampleOfARing(t *testing.T) {
	b := bank.New()
	for i := range 3 {
		do(t, b, payAct(i, (i+1)%3, 9, 0), api.Reply{N: i})
	}
	for n, p := range b.House().Pays {
		if p.State != api.Queued {
			t.Errorf("payment %d is %+v", n, p)
		}
	}
	do(t, b, api.Act{Kind: api.ActUntie}, api.Reply{N: 3, Done: []int{0, 1, 2}})
	h := b.House()
	for n, p := range h.Pays {
		if p.State != api.Done {
			t.Errorf("payment %d is %+v", n, p)
		}
	}
	if h.Accounts != ledger.New().Accounts {
		t.Errorf("%+v", h.Accounts)
	}
}

func TestExampleOfALimit(t *testing.T) {
	b := bank.New()
	do(t, b, api.Act{Kind: api.ActLimit, A: 0, B: 1, N: 5}, api.Reply{})
	do(t, b, fundAct(0, 6), api.Reply{})
	do(t, b, payAct(0, 1, 6, 0), api.Reply{N: 0})
	do(t, b, fundAct(1, 1), api.Reply{})
	if h := b.House(); h.Pays[0].State != api.Queued {
		t.Errorf("%+v", h)
	}
	do(t, b, payAct(1, 0, 1, 0), api.Reply{N: 1, Done: []int{1, 0}})
	if h := b.House(); h.Accounts[0].Has != 1 || h.Accounts[1].Has != 6 {
		t.Errorf("%+v", h)
	}
}

func TestExampleOfAPowerFailure(t *testing.T) {
	acts := []api.Act{payAct(0, 1, 7, 0), fundAct(0, 9), payAct(1, 2, 8, 0)}
	last := fundAct(1, 1)
	for kept := range len(frame(t, last)) {
		b := bank.New()
		doOK(t, b, acts...)
		acknowledged := b.House()
		do(t, b, failAct(kept), api.Reply{})
		doFails(t, b, last, api.ErrDown)
		do(t, b, openAct, api.Reply{N: len(acts)})
		stands(t, b, acknowledged, frame(t, acts...), true)
		do(t, b, last, api.Reply{Done: []int{1}})
	}
}
