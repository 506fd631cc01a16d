/- Contract of the document side of the sweep. Condition: the payments lie in memory that is known. -/
import Derived.Test.YtbgnmapmiobjcaaW8
import Derived.Test.YtbgnmapmiobjcaaK11
namespace Go.Proofs.Ytbgnmapmiobjcaa
open Go.RowKit
set_option linter.unusedSimpArgs false
set_option linter.unusedVariables false
set_option maxRecDepth 100000
attribute [local irreducible] cC sC nC rC qw

theorem gr_SweepHouse (h : H) (ps : List PayS) (w : World) (hp : PaysIn (At w) h.pa h.pl ps) (hb : h.pl * 48 ≤ 281474976710656) (hlc : h.pl ≤ h.pc) : GivesF Try.prog 26 [.agg h.cells] w (SweepF h ps (sweepM h.core ps)) := by
  refine givesF_of Try.func26 rfl Try.ntmps26 (by simp) ?_
  refine r_seq (by kernel_rfl) ?_
  refine s_box (v := .agg _) rfl (fun b1 => ?_)
  refine s_alloc (z := .agg zeroH.cells) (by kernel_rfl) (fun b2 => ?_)
  refine s_val (v_assign (v := .slice _ _ _) rfl) ?_
  refine s_nil ?_
  refine r_seq (by kernel_rfl) ?_
  refine s_val (v_assign (v := .slice _ _ _) rfl) ?_
  refine s_nil ?_
  refine c_seq ?_
  refine r_seq (by kernel_rfl) ?_
  refine s_val (v_loadA (m := 42) (by kernel_rfl) rfl (.there .here) (H.size _)) ?_
  refine s_call (by kernel_rfl) (fun w hw => gr_IsHouse _ ps w (hp.at hw) hb hlc) ?_
  refine s_val (v_not rfl) ?_
  refine s_nil ?_
  refine c_condN rfl rfl (fun h10 => ?_) (fun h10 => ?_)
  · refine r_seq (by kernel_rfl) ?_
    refine s_val (v_loadA (m := 42) (by kernel_rfl) rfl (.there .here) (H.size _)) ?_
    refine s_storeA (m := 42) (by kernel_rfl) rfl rfl .here (H.size _) (H.size _) (H.all1 _) ?_
    refine s_val (v_assign (v := .slice _ _ _) rfl) ?_
    refine s_nil ?_
    refine c_ret ?_
    refine n_ret ?_
    refine n_done2F (m := 42) rfl (by decide) (by decide) rfl (by kernel_rfl) .here (H.size _) (fun w hw => ?_)
    have hg : goodB h.core ps = false := (isHouse_eq hp.1).symm.trans h10
    simp only [sweepM, hg, cond_false]
    exact ⟨_, _, rfl, ⟨h, rfl, rfl, hlc, .inl ⟨rfl, rfl, rfl⟩⟩, none, 0, rfl, .inl rfl⟩
  refine c_skip ?_
  refine n_then ?_
  refine r_seq (by kernel_rfl) ?_
  refine s_val (v_assign (v := .int .i64 _) rfl) ?_
  refine s_nil ?_
  refine c_seq ?_
  refine r_seq (by kernel_rfl) ?_
  refine s_val (v_assign (v := .int .i64 _) rfl) ?_
  refine s_nil ?_
  refine c_block ?_
  refine c_loop (σ := SwG) (fun (s : SwG) f => ∃ g, (SwOk w h ps 3 s ∧ s.bank < 4 ∧ s.idle ≤ 4 ∧ sweepFrom s.bank s.idle s.q = sweepFrom 0 0 ⟨h.core, ps, []⟩) ∧ f = (upd (upd (upd (upd (upd g 1 (.pointer (some ⟨b1, 0, none⟩))) 2 (.pointer (some ⟨b2, 0, none⟩))) 4 (s.v)) 5 (I (s.idle : Int))) 6 (I (s.bank : Int)))) (fun (s : SwG) => Has w s.F (s.E ++ [(b2, .cells zeroH.cells 29), (b1, .cells s.h.cells 29)])) (fun (s : SwG) => 5 * cnt s.ps + (4 - s.idle)) ⟨At w, h, ps, [], .slice none 0 0, [], 0, 0⟩ ⟨_, ⟨swOk_start hp hlc, Nat.zero_lt_succ _, Nat.zero_le _, rfl⟩, live5 rfl rfl rfl rfl rfl⟩ (fun w hw => hw) ?_
  rintro s _ ⟨g, ⟨hok0, hb4, hi4, hsw⟩, rfl⟩
  refine c_seq ?_
  refine r_seq (by kernel_rfl) ?_
  refine s_val (v_move (v := .int .i64 _) rfl) ?_
  refine s_val (v_lss (k := .i64) rfl rfl) ?_
  refine s_nil ?_
  refine c_condR rfl rfl (fun h13 => ?_) (fun h13 => ?_)
  · have h4 : ¬ s.idle < 4 := by have := of_decide_eq_false h13; omega
    refine c_exit ?_
    refine n_exit ?_
    refine n_exit ?_
    refine n_bhere ?_
    refine n_then ?_
    refine r_seq (by kernel_rfl) ?_
    refine s_val (v_loadA (m := 42) (by kernel_rfl) rfl (.app (.there .here)) (H.size _)) ?_
    refine s_val (v_move (v := _) rfl) ?_
    refine s_storeA (m := 42) (by kernel_rfl) rfl rfl (.app .here) (H.size _) (H.size _) (H.all1 _) ?_
    refine s_val (v_assign (v := _) rfl) ?_
    refine s_nil ?_
    refine c_ret ?_
    refine n_done2F (m := 42) rfl (by decide) (by decide) rfl (by kernel_rfl) (.app .here) (H.size _) (fun w hw => ?_)
    have hg : goodB h.core ps = true := (isHouse_eq hp.1).symm.trans h10
    simp only [sweepM, hg, cond_true]
    rw [← hsw, sweep_end h4]
    exact hok0.done hw
  have h4 : s.idle < 4 := by have := of_decide_eq_true h13; omega
  refine c_skip ?_
  refine n_then ?_
  refine c_seq ?_
  refine c_block ?_
  refine r_seq (by kernel_rfl) ?_
  refine s_val (v_move (v := .int .i64 _) rfl) ?_
  refine s_val (v_add rfl rfl (by omega)) ?_
  refine s_val (v_assign (v := .int .i64 _) rfl) ?_
  refine s_nil ?_
  refine c_block ?_
  refine c_loop (σ := SwG) (fun (t : SwG) f => ∃ g, (SwOk w h ps 3 t ∧ drain s.bank t.q = drain s.bank s.q ∧ ((t.idle = s.idle + 1 ∧ t.xs.length = s.xs.length) ∨ (t.idle = 0 ∧ s.xs.length < t.xs.length))) ∧ f = (upd (upd (upd (upd (upd g 1 (.pointer (some ⟨b1, 0, none⟩))) 2 (.pointer (some ⟨b2, 0, none⟩))) 4 (t.v)) 5 (I (t.idle : Int))) 6 (I (s.bank : Int)))) (fun (t : SwG) => Has w t.F (t.E ++ [(b2, .cells zeroH.cells 29), (b1, .cells t.h.cells 29)])) (fun (t : SwG) => cnt t.ps) ⟨s.F, s.h, s.ps, s.xs, s.v, s.E, s.bank, s.idle + 1⟩ ⟨_, ⟨hok0.learn (fun _ _ h => h) _ _, rfl, .inl ⟨rfl, rfl⟩⟩, live5 rfl rfl rfl rfl rfl⟩ (fun w hw => hw) ?_
  rintro t _ ⟨g, ⟨hok, hdr, hid⟩, rfl⟩
  refine c_block ?_
  have hlct := hok.lc
  have hlnt := hok.len
  refine r_seq (by kernel_rfl) ?_
  refine s_val (v_loadA (m := 42) (by kernel_rfl) rfl (.app (.there .here)) (H.size _)) ?_
  refine s_val (v_move (v := .int .i64 _) rfl) ?_
  refine s_callF (by kernel_rfl) (fun w hw => gr_QueueOf t.h t.ps s.bank w (hok.pays.at hw) (by omega) hlct) (fun F21 v21 E21 hF21 hK21 hR21 => ?_)
  have hpy := hok.pays.mono hF21
  obtain ⟨a21, c21, rfl, hq21⟩ := ints_of_list hR21 hK21
  refine s_val (v_assign (v := .slice _ _ _) rfl) ?_
  refine s_nil ?_
  refine c_seq ?_
  refine d_seq (by kernel_rfl) (by kernel_rfl) (fun w hw => hw.drew) (by kernel_rfl) ?_
  refine q_val (v_move (v := .slice _ _ _) rfl) ?_
  refine q_val (v_lenS (T := 43) (m := 1) (by kernel_rfl) rfl rfl) ?_
  refine q_val (v_eql (k := .i64) rfl rfl) ?_
  refine q_val (v_move (v := .bool _) rfl) ?_
  refine q_split (s := 25) rfl (fun h25 => ?_) (fun h25 => ?_)
  · refine q_pass rfl rfl h25 ?_
    refine q_pass rfl rfl h25 ?_
    refine q_pass rfl rfl h25 ?_
    refine q_pass rfl rfl h25 ?_
    refine q_pass rfl rfl h25 ?_
    refine q_pass rfl rfl h25 ?_
    refine q_pass rfl rfl h25 ?_
    refine q_pass rfl rfl h25 ?_
    refine q_pass rfl rfl h25 ?_
    refine q_pass rfl rfl h25 ?_
    refine q_pass rfl rfl h25 ?_
    refine q_pass rfl rfl h25 ?_
    refine q_pass rfl rfl h25 ?_
    refine q_pass rfl rfl h25 ?_
    refine q_pass rfl rfl h25 ?_
    refine q_pass rfl rfl h25 ?_
    refine q_pass rfl rfl h25 ?_
    refine q_pass rfl rfl h25 ?_
    refine q_pass rfl rfl h25 ?_
    refine q_pass rfl rfl h25 ?_
    refine q_val (v_pickT (v := .bool _) rfl h25 rfl) ?_
    refine q_nil ?_
    refine c_condTh rfl rfl rfl ?_
    refine c_exit ?_
    refine n_exit ?_
    refine n_bpast rfl ?_
    refine n_exit ?_
    refine n_bhere ?_
    refine n_bnormal ?_
    refine n_then ?_
    refine r_list (by kernel_rfl) ?_
    refine s_val (v_move (v := .int .i64 _) rfl) ?_
    refine s_val (v_add rfl rfl (by omega)) ?_
    refine s_val (v_rem (c := (((s.bank + 1) % 4 : Nat) : Int)) rfl rfl (by decide) (rem4 _)) ?_
    refine s_val (v_assign (v := .int .i64 _) rfl) ?_
    refine s_end ?_
    refine n_round (s := s) ⟨F21, t.h, t.ps, t.xs, t.v, t.E, (s.bank + 1) % 4, t.idle⟩ ⟨_, (by
      obtain ⟨e1, e2, e3⟩ := sw_round (s := s.q) (t := t.q) h4 (firstM_nil (show queueM t.ps s.bank = [] from List.eq_nil_of_length_eq_zero (by have := of_decide_eq_true h25; omega))) hdr hid
      exact ⟨hok.learn hF21 _ _, Nat.mod_lt _ (by decide), e3, e1.trans hsw⟩), live5 rfl rfl rfl rfl rfl⟩ (fun _ hw => hw) (sw_round (s := s.q) (t := t.q) h4 (firstM_nil (show queueM t.ps s.bank = [] from List.eq_nil_of_length_eq_zero (by have := of_decide_eq_true h25; omega))) hdr hid).2.1
  have hne := of_decide_eq_false h25
  obtain ⟨i, r, hq⟩ : ∃ i r, queueM t.ps s.bank = i :: r := by
    cases hq : queueM t.ps s.bank with
    | nil => rw [hq] at hne; exact absurd rfl hne
    | cons i r => exact ⟨i, r, rfl⟩
  obtain ⟨bq, oq, rfl, hel⟩ := hq21.resolve_left (by rw [hq]; simp)
  have hi0 := hel 0 i (by rw [hq]; rfl)
  have hlen : (0 : Int) < ((queueM t.ps s.bank).length : Int) := by rw [hq]; simp only [List.length_cons]; omega
  obtain ⟨p, hst, hpi, hsta, hsrc⟩ := (queueM_mine (show i ∈ queueM t.ps s.bank by rw [hq]; simp)).settles
  have hi1 := (settles_spec hst).1
  have hilt : i.toNat < t.h.pl := by have := (List.getElem?_eq_some_iff.1 hpi).1; have := hok.pays.1; omega
  obtain ⟨bp, op, hpa, hc⟩ := hpy.some hilt
  refine q_want rfl rfl h25 ?_
  refine q_val (v_loadA (m := 42) (by kernel_rfl) rfl (.app (.there .here)) (H.size _)) ?_
  refine q_want rfl rfl h25 ?_
  refine q_val (v_move (v := .int .i64 _) rfl) ?_
  refine q_want rfl rfl h25 ?_
  refine q_val (v_field (fo := 40) (by kernel_rfl) rfl) ?_
  refine q_want rfl rfl h25 ?_
  refine q_val (v_load1 (v := .slice _ _ _) (by kernel_rfl) rfl (.app (.there .here)) (H.at_pays _)) ?_
  refine q_want rfl rfl h25 ?_
  refine q_val (v_move (v := .slice _ _ _) rfl) ?_
  refine q_want rfl rfl h25 ?_
  refine q_val (v_idxS (size := 1) (k := .i64) (by kernel_rfl) rfl rfl ⟨by decide, hlen⟩) ?_
  refine q_want rfl rfl h25 ?_
  refine q_val (v_load1o (v := I i) (by kernel_rfl) rfl hi0) ?_
  refine q_want rfl rfl h25 ?_
  refine q_val (v_idxS (size := 6) (k := .i64) (by kernel_rfl) (congrArg (fun a => Value.slice a t.h.pl t.h.pc) hpa) rfl ⟨by omega, by omega⟩) ?_
  refine q_want rfl rfl h25 ?_
  refine q_val (v_field (fo := 1) (by kernel_rfl) rfl) ?_
  refine q_want rfl rfl h25 ?_
  refine q_val (v_load1o (by kernel_rfl) rfl (hc _ p hpi 1 _ rfl)) ?_
  refine q_want rfl rfl h25 ?_
  refine q_val (v_field (fo := 40) (by kernel_rfl) rfl) ?_
  refine q_want rfl rfl h25 ?_
  refine q_val (v_load1 (v := .slice _ _ _) (by kernel_rfl) rfl (.app (.there .here)) (H.at_pays _)) ?_
  refine q_want rfl rfl h25 ?_
  refine q_val (v_move (v := .slice _ _ _) rfl) ?_
  refine q_want rfl rfl h25 ?_
  refine q_val (v_idxS (size := 1) (k := .i64) (by kernel_rfl) rfl rfl ⟨by decide, hlen⟩) ?_
  refine q_want rfl rfl h25 ?_
  refine q_val (v_load1o (v := I i) (by kernel_rfl) rfl hi0) ?_
  refine q_want rfl rfl h25 ?_
  refine q_val (v_idxS (size := 6) (k := .i64) (by kernel_rfl) (congrArg (fun a => Value.slice a t.h.pl t.h.pc) hpa) rfl ⟨by omega, by omega⟩) ?_
  refine q_want rfl rfl h25 ?_
  refine q_val (v_field (fo := 2) (by kernel_rfl) rfl) ?_
  refine q_want rfl rfl h25 ?_
  refine q_val (v_load1o (by kernel_rfl) rfl (hc _ p hpi 2 _ rfl)) ?_
  refine q_want rfl rfl h25 ?_
  refine q_call (by kernel_rfl) (fun w hw => gr_MaySend _ _ _ _ w) ?_
  refine q_want rfl rfl h25 ?_
  refine q_val (v_not rfl) ?_
  refine q_val (v_pickF (v := .bool _) rfl h25 rfl) ?_
  refine q_nil ?_
  refine c_condN rfl rfl (fun h46 => ?_) (fun h46 => ?_)
  · refine c_exit ?_
    refine n_exit ?_
    refine n_bpast rfl ?_
    refine n_exit ?_
    refine n_bhere ?_
    refine n_bnormal ?_
    refine n_then ?_
    refine r_list (by kernel_rfl) ?_
    refine s_val (v_move (v := .int .i64 _) rfl) ?_
    refine s_val (v_add rfl rfl (by omega)) ?_
    refine s_val (v_rem (c := (((s.bank + 1) % 4 : Nat) : Int)) rfl rfl (by decide) (rem4 _)) ?_
    refine s_val (v_assign (v := .int .i64 _) rfl) ?_
    refine s_end ?_
    refine n_round (s := s) ⟨F21, t.h, t.ps, t.xs, t.v, t.E, (s.bank + 1) % 4, t.idle⟩ ⟨_, (by
      obtain ⟨e1, e2, e3⟩ := sw_round (s := s.q) (t := t.q) h4 (firstM_no hq hpi h46) hdr hid
      exact ⟨hok.learn hF21 _ _, Nat.mod_lt _ (by decide), e3, e1.trans hsw⟩), live5 rfl rfl rfl rfl rfl⟩ (fun _ hw => hw) (sw_round (s := s.q) (t := t.q) h4 (firstM_no hq hpi h46) hdr hid).2.1
  refine c_skip ?_
  refine n_then ?_
  refine t_seq (k := 4) (by kernel_rfl) (by kernel_rfl) (fun w hw => hw.drew) (by kernel_rfl) ?_
  refine q_val (v_loadA (m := 42) (by kernel_rfl) rfl (.app (.there .here)) (H.size _)) ?_
  refine q_val (v_move (v := .slice _ _ _) rfl) ?_
  refine q_val (v_idxS (size := 1) (k := .i64) (by kernel_rfl) rfl rfl ⟨by decide, hlen⟩) ?_
  refine q_val (v_load1o (v := I i) (by kernel_rfl) rfl hi0) ?_
  refine q_tail ?_
  refine s_callG (by kernel_rfl) (houseF_mono _ _ _ _) (fun w hw => gr_SettlePay t.h t.ps i w (hpy.at hw) (by omega) hlct) (fun F51 v51 hF51 hR51 => ?_)
  obtain ⟨h51, rfl, hco51, hlc51, hpo51⟩ := hR51
  have hcs := cnt_settle hst
  have hsum := hok.sum
  refine s_storeA (m := 42) (by kernel_rfl) rfl rfl (.app (.there .here)) (H.size _) (H.size _) (H.all1 _) ?_
  refine s_nil ?_
  refine r_seq (by kernel_rfl) ?_
  refine s_val (v_move (v := _) rfl) ?_
  refine s_val (v_move (v := .slice _ _ _) rfl) ?_
  refine s_val (v_idxS (size := 1) (k := .i64) (by kernel_rfl) rfl rfl ⟨by decide, hlen⟩) ?_
  refine s_val (v_load1o (v := I i) (by kernel_rfl) rfl (hF51 _ _ hi0)) ?_
  refine s_build1 (v := .int .i64 _) (e := 3) (m := 1) (by_ := 8) (by kernel_rfl) rfl rfl rfl (fill_scalar rfl) (fun b56 => ?_)
  refine s_push (e := 3) (m := 1) (by_ := 8) (by kernel_rfl) rfl rfl rfl rfl rfl hok.list rfl (all_scalar rfl rfl) (by omega) (fun v57 E57 hE57 => ?_)
  refine s_val (v_assign (v := _) rfl) ?_
  refine s_nil ?_
  refine r_list (by kernel_rfl) ?_
  refine s_val (v_assign (v := .int .i64 _) rfl) ?_
  refine s_end ?_
  refine n_bnormal ?_
  refine n_round (s := t) ⟨F51, h51, settleP t.ps i, t.xs ++ [i], v57, E57, 0, 0⟩ ⟨_, ⟨hok.go (fun a v h => hF51 a v (hF21 a v h)) hst hlc51 hpo51 hE57 _ _, (sw_drain hq hpi h46 hco51).trans hdr, .inr ⟨rfl, by
      simp only [List.length_append, List.length_cons, List.length_nil]; omega⟩⟩, live5 rfl rfl rfl rfl rfl⟩ (fun _ hw => hw) (by dsimp only; omega)

end Go.Proofs.Ytbgnmapmiobjcaa
