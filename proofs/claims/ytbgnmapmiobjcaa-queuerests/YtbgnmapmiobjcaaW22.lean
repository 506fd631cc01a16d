/- Contract of the sweep of one bank. Condition: the payments lie in memory that is known. -/
import Derived.Test.YtbgnmapmiobjcaaW21
import Derived.Test.YtbgnmapmiobjcaaK23
namespace Go.Proofs.Ytbgnmapmiobjcaa
open Go.RowKit
set_option linter.unusedSimpArgs false
set_option linter.unusedVariables false
set_option maxRecDepth 100000
attribute [local irreducible] cC sC nC rC qw

theorem g_sweepBank (h : H) (ps : List PayS) (bank nr : Int) (w : World) (hp : PaysIn (At w) h.pa h.pl ps) (hb : h.pl * 48 ≤ 281474976710656) (hlc : h.pl ≤ h.pc) (hsa : SeqsApart ps) (hgp : GoodPs ps) (hbk : 0 ≤ bank ∧ bank < 4) (hnn : 0 ≤ nr) (hnr0 : nr + ps.length ≤ 1000000) (hnear : NearG nr h.core) : GivesF Try.prog 44 [.agg h.cells, I bank] w (SweepF h ps (drain bank ⟨h.core, ps, []⟩)) := by
  have hnr : nr + (queueM ps bank).length ≤ 1000000 := by have := queueTo_len ps bank ps.length; unfold queueM; omega
  refine givesF_of Try.func44 rfl Try.ntmps44 (by simp) ?_
  refine r_seq (by kernel_rfl) ?_
  refine s_box (v := .agg _) rfl (fun b2 => ?_)
  refine s_alloc (z := .agg zeroH.cells) (by kernel_rfl) (fun b4 => ?_)
  refine s_val (v_assign (v := .slice _ _ _) rfl) ?_
  refine s_nil ?_
  refine r_seq (by kernel_rfl) ?_
  refine s_val (v_loadA (m := 42) (by kernel_rfl) rfl (.there .here) (H.size _)) ?_
  refine s_val (v_move (v := .int .i64 _) rfl) ?_
  refine s_callG (by kernel_rfl) (room_mono _) (fun w hw => (g_Of h ps bank w (hp.at hw) hb hlc hsa (.inl hbk)).toF (fun F v E hk hl => room_of_list hl hk)) (fun F12 v12 hF12 hR12 => ?_)
  obtain ⟨a12, c12, rfl, hc12, ia12⟩ := hR12
  refine s_val (v_assign (v := .slice _ _ _) rfl) ?_
  refine s_nil ?_
  refine c_seq ?_
  refine r_seq (by kernel_rfl) ?_
  refine s_val (v_move (v := .slice _ _ _) rfl) ?_
  refine s_val (v_lenS (T := 43) (m := 1) (by kernel_rfl) rfl rfl) ?_
  refine s_val (v_move (v := .int .i64 _) rfl) ?_
  refine s_nil ?_
  refine c_block ?_
  refine c_loop (σ := SbG) (fun (t : SbG) f => ∃ g, (SbOk w F12 h ps bank nr t) ∧ f = (upd (upd (upd (upd (upd (upd (upd g 1 (I bank)) 2 (.pointer (some ⟨b2, 0, none⟩))) 4 (.pointer (some ⟨b4, 0, none⟩))) 6 (.slice a12 (queueM ps bank).length c12)) 13 (.slice a12 (queueM ps bank).length c12)) 14 (I (queueM ps bank).length)) 15 (I t.k))) (fun (t : SbG) => Has w t.F [(b4, .cells zeroH.cells 29), (b2, .cells t.h.cells 29)]) (fun (t : SbG) => (queueM ps bank).length - t.k) ⟨F12, h, ps, 0⟩ ⟨_, sb_start hp hF12 hlc hsa hgp hnear, live7 rfl rfl rfl rfl rfl rfl rfl⟩ (fun w hw => hw) ?_
  rintro t _ ⟨g, ho, rfl⟩
  refine r_seq (by kernel_rfl) ?_
  refine s_val (v_lss (k := .i64) rfl rfl) ?_
  refine s_nil ?_
  refine c_seq ?_
  refine c_condR rfl rfl (fun h16 => ?_) (fun h16 => ?_)
  · refine c_exit ?_
    refine n_exit ?_
    refine n_exit ?_
    refine n_bhere ?_
    refine n_then ?_
    refine r_seq (by kernel_rfl) ?_
    refine s_val (v_loadA (m := 42) (by kernel_rfl) rfl (.there .here) (H.size _)) ?_
    refine s_val (v_move (v := .slice _ _ _) rfl) ?_
    refine s_storeA (m := 42) (by kernel_rfl) rfl rfl .here (H.size _) (H.size _) (H.all1 _) ?_
    refine s_val (v_assign (v := .slice _ _ _) rfl) ?_
    refine s_nil ?_
    refine c_ret ?_
    refine n_done2F (m := 42) rfl (by decide) (by decide) rfl (by kernel_rfl) .here (H.size _) (fun w hw => ?_)
    exact ho.done (ho.fin (of_decide_eq_false h16)) hw ia12 (by have := of_decide_eq_false h16; have := ho.kl; omega)
  have hk0 := of_decide_eq_true h16
  obtain ⟨bq, oq, n, ha12, hn, hfn⟩ := ia12.get (j := t.k) (by omega)
  obtain ⟨p, hst, hpn, hsrc, hq, hn0, hnl, hnl'⟩ := ho.step hn
  obtain ⟨bp, op, hpa, hc⟩ := ho.pays.some hnl
  have hkl := ho.kl
  have hlent := ho.len
  refine c_skip ?_
  refine n_then ?_
  refine c_seq ?_
  refine c_block ?_
  refine r_seq (by kernel_rfl) ?_
  refine s_val (v_move (v := .int .i64 _) rfl) ?_
  refine s_val (v_idxS (size := 1) (k := .i64) (by kernel_rfl) (congrArg (fun a => Value.slice a (queueM ps bank).length c12) ha12) rfl ⟨by omega, by omega⟩) ?_
  refine s_val (v_load1o (v := I n) (by kernel_rfl) rfl (by simpa using ho.more _ _ hfn.1)) ?_
  refine s_val (v_assign (v := .int .i64 _) rfl) ?_
  refine s_val (v_assign (v := .int .i64 _) rfl) ?_
  refine s_nil ?_
  refine r_seq (by kernel_rfl) ?_
  refine s_val (v_field (fo := 40) (by kernel_rfl) rfl) ?_
  refine s_val (v_load1 (v := .slice _ _ _) (by kernel_rfl) rfl (.there .here) (H.at_pays _)) ?_
  refine s_val (v_move (v := .int .i64 _) rfl) ?_
  refine s_val (v_idxS (size := 6) (k := .i64) (by kernel_rfl) (congrArg (fun a => Value.slice a t.h.pl t.h.pc) hpa) rfl ⟨by omega, by omega⟩) ?_
  refine s_val (v_loadNo (cs := p.cells) (m := 6) (by kernel_rfl) rfl rfl (hc _ p hpn)) ?_
  refine s_alloc (z := zeroOf Try.prog 36) (by kernel_rfl) (fun b9 => ?_)
  refine s_storeA (m := 6) (by kernel_rfl) rfl rfl .here (by kernel_rfl) rfl (PayS.all1 _) ?_
  refine s_nil ?_
  refine c_seq ?_
  refine r_seq (by kernel_rfl) ?_
  refine s_val (v_loadA (m := 42) (by kernel_rfl) rfl (.there (.there .here)) (H.size _)) ?_
  refine s_val (v_field (fo := 0) (by kernel_rfl) rfl) ?_
  refine s_val (v_load1 (v := .int .i64 _) (by kernel_rfl) rfl .here rfl) ?_
  refine s_val (v_field (fo := 1) (by kernel_rfl) rfl) ?_
  refine s_val (v_load1 (v := .int .i64 _) (by kernel_rfl) rfl .here rfl) ?_
  refine s_val (v_field (fo := 2) (by kernel_rfl) rfl) ?_
  refine s_val (v_load1 (v := .int .i64 _) (by kernel_rfl) rfl .here rfl) ?_
  refine s_call (by kernel_rfl) (fun w hw => g_May _ _ _ _ w) ?_
  refine s_val (v_not rfl) ?_
  refine s_nil ?_
  refine c_condNR rfl rfl (fun h33 => ?_) (fun h33 => ?_)
  · refine c_skip ?_
    refine n_then ?_
    refine r_list (by kernel_rfl) ?_
    refine s_val (v_loadA (m := 42) (by kernel_rfl) rfl (.there (.there .here)) (H.size _)) ?_
    refine s_val (v_move (v := .int .i64 _) rfl) ?_
    refine s_callG (by kernel_rfl) (houseF_mono _ _ _ _) (fun w hw => g_Settle t.h t.ps n w (ho.pays.at hw) (by omega) ho.lc) (fun F40 v40 hF40 hR40 => ?_)
    obtain ⟨h40, rfl, hco40, hlc40, hpo40⟩ := hR40
    refine s_storeA (m := 42) (by kernel_rfl) rfl rfl (.there (.there .here)) (H.size _) (H.size _) (H.all1 _) ?_
    refine s_end ?_
    refine n_bnormal ?_
    refine n_then ?_
    refine r_list (by kernel_rfl) ?_
    refine s_val (v_add rfl rfl (by omega)) ?_
    refine s_val (v_move (v := .int .i64 _) rfl) ?_
    refine s_end ?_
    refine n_round (s := t) ⟨F40, h40, settleP t.ps n, t.k + 1⟩ ⟨_, ho.next hnn hnr hn hst hq (by have hm := h33; rw [ho.may hnr, hsrc] at hm; exact hm) hF40 hco40 hlc40 hpo40, live7 rfl rfl rfl rfl rfl rfl rfl⟩ (fun _ hw => hw.tail) (by dsimp only; omega)
  refine fw_seq (j0 := 4) (Ψ := (rowV 34 (.agg t.h.cells) (rowV 35 (.slice a12 (queueM ps bank).length c12) (rowV 36 (I t.k) (rowV 37 (.slice a12 ((t.k : Int)).toNat c12) (rowV 5 (.slice a12 ((t.k : Int)).toNat c12) AnyV)))))) (L' := [(b9, .cells p.cells 36), (b4, .cells t.h.cells 29), (b2, .cells t.h.cells 29)]) (by kernel_rfl) (by kernel_rfl) (by kernel_rfl) rfl ⟨?_, ?_, ?_, ?_, ?_, trivial⟩ ⟨?_, ?_, ?_, ?_, ?_, trivial⟩ ?_ ?_
  · refine obw_val (v := .agg t.h.cells) (fun g hl => ?_)
    have e2 : g 2 = .pointer (some ⟨b2, 0, none⟩) := (hl 2 (of_decide_eq_true (by kernel_rfl))).2 (of_decide_eq_true (by kernel_rfl))
    exact ⟨v_loadA (m := 42) (by kernel_rfl) e2 (.there (.there .here)) (H.size _), rfl⟩
  · refine obw_val (v := .slice a12 (queueM ps bank).length c12) (fun g hl => ?_)
    have e6 : g 6 = .slice a12 (queueM ps bank).length c12 := (hl 6 (of_decide_eq_true (by kernel_rfl))).2 (of_decide_eq_true (by kernel_rfl))
    exact ⟨v_move (v := .slice a12 (queueM ps bank).length c12) e6, rfl⟩
  · refine obw_val (v := I t.k) (fun g hl => ?_)
    have e7 : g 7 = I t.k := (hl 7 (of_decide_eq_true (by kernel_rfl))).2 (of_decide_eq_true (by kernel_rfl))
    exact ⟨v_move (v := I t.k) e7, rfl⟩
  · refine obw_val (v := .slice a12 ((t.k : Int)).toNat c12) (fun g hl => ?_)
    have e35 : g 35 = .slice a12 (queueM ps bank).length c12 := (hl 35 (of_decide_eq_true (by kernel_rfl))).1 (of_decide_eq_true (by kernel_rfl))
    have e36 : g 36 = I t.k := (hl 36 (of_decide_eq_true (by kernel_rfl))).1 (of_decide_eq_true (by kernel_rfl))
    exact ⟨v_sliceHi (m := 1) (by kernel_rfl) e35 e36 ⟨by omega, by omega⟩, rfl⟩
  · refine obw_val (v := .slice a12 ((t.k : Int)).toNat c12) (fun g hl => ?_)
    have e37 : g 37 = .slice a12 ((t.k : Int)).toNat c12 := (hl 37 (of_decide_eq_true (by kernel_rfl))).1 (of_decide_eq_true (by kernel_rfl))
    exact ⟨v_assign (v := .slice a12 ((t.k : Int)).toNat c12) e37, rfl⟩
  · refine obw_val (v := .agg t.h.cells) (fun g hl => ?_)
    have e2 : g 2 = .pointer (some ⟨b2, 0, none⟩) := (hl 2 (of_decide_eq_true (by kernel_rfl))).2 (of_decide_eq_true (by kernel_rfl))
    exact ⟨v_loadA (m := 42) (by kernel_rfl) e2 (.there (.there .here)) (H.size _), rfl⟩
  · refine obw_val (v := .slice a12 (queueM ps bank).length c12) (fun g hl => ?_)
    have e6 : g 6 = .slice a12 (queueM ps bank).length c12 := (hl 6 (of_decide_eq_true (by kernel_rfl))).2 (of_decide_eq_true (by kernel_rfl))
    exact ⟨v_move (v := .slice a12 (queueM ps bank).length c12) e6, rfl⟩
  · refine obw_val (v := I t.k) (fun g hl => ?_)
    have e7 : g 7 = I t.k := (hl 7 (of_decide_eq_true (by kernel_rfl))).2 (of_decide_eq_true (by kernel_rfl))
    exact ⟨v_move (v := I t.k) e7, rfl⟩
  · refine obw_val (v := .slice a12 ((t.k : Int)).toNat c12) (fun g hl => ?_)
    have e35 : g 35 = .slice a12 (queueM ps bank).length c12 := (hl 35 (of_decide_eq_true (by kernel_rfl))).1 (of_decide_eq_true (by kernel_rfl))
    have e36 : g 36 = I t.k := (hl 36 (of_decide_eq_true (by kernel_rfl))).1 (of_decide_eq_true (by kernel_rfl))
    exact ⟨v_sliceHi (m := 1) (by kernel_rfl) e35 e36 ⟨by omega, by omega⟩, rfl⟩
  · refine obw_val (v := .slice a12 ((t.k : Int)).toNat c12) (fun g hl => ?_)
    have e37 : g 37 = .slice a12 ((t.k : Int)).toNat c12 := (hl 37 (of_decide_eq_true (by kernel_rfl))).1 (of_decide_eq_true (by kernel_rfl))
    exact ⟨v_assign (v := .slice a12 ((t.k : Int)).toNat c12) e37, rfl⟩
  · intro g hl
    have e4 : g 4 = .pointer (some ⟨b4, 0, none⟩) := (hl 4 (of_decide_eq_true (by kernel_rfl))).2 (of_decide_eq_true (by kernel_rfl))
    have e34 : g 34 = .agg t.h.cells := (hl 34 (of_decide_eq_true (by kernel_rfl))).1 (of_decide_eq_true (by kernel_rfl))
    refine ⟨rfl, ?_⟩
    refine s_storeA (m := 42) (by kernel_rfl) e4 e34 (.there .here) (H.size _) (H.size _) (H.all1 _) ?_
    exact ow_end
  intro g hd he
  have e4 : g 4 = .pointer (some ⟨b4, 0, none⟩) := he 4 (of_decide_eq_true (by kernel_rfl))
  have e5 : g 5 = .slice a12 ((t.k : Int)).toNat c12 := hd 5 (of_decide_eq_true (by kernel_rfl))
  obtain ⟨g1, hg1⟩ : ∃ g1, g = (upd (upd g1 4 (.pointer (some ⟨b4, 0, none⟩))) 5 (.slice a12 ((t.k : Int)).toNat c12)) := ⟨g, live2 e4 e5⟩
  rw [hg1]
  refine c_ret ?_
  refine n_ret ?_
  refine n_bret ?_
  refine n_ret ?_
  refine n_ret ?_
  refine n_bret ?_
  refine n_ret ?_
  refine n_done2F (m := 42) rfl (by decide) (by decide) rfl (by kernel_rfl) (.there .here) (H.size _) (fun w hw => ?_)
  exact ho.done (firstM_no hq hpn (by have hm := h33; rw [ho.may hnr, hsrc] at hm; exact hm)) hw ia12 (by omega)

end Go.Proofs.Ytbgnmapmiobjcaa
