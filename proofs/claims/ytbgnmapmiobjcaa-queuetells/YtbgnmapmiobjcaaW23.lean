/- Contract of the sweep. Condition: the payments lie in memory that is known. -/
import Derived.Test.YtbgnmapmiobjcaaW22
namespace Go.Proofs.Ytbgnmapmiobjcaa
open Go.RowKit
set_option linter.unusedSimpArgs false
set_option linter.unusedVariables false
set_option maxRecDepth 100000
attribute [local irreducible] cC sC nC rC qw

theorem g_Sweep (h : H) (ps : List PayS) (w : World) (hp : PaysIn (At w) h.pa h.pl ps) (hb : h.pl * 48 ≤ 281474976710656) (hlc : h.pl ≤ h.pc) : GivesF Try.prog 25 [.agg h.cells] w (SweepF h ps (sweepM h.core ps)) := by
  refine givesF_of Try.func25 rfl Try.ntmps25 (by simp) ?_
  refine r_seq (by kernel_rfl) ?_
  refine s_box (v := .agg _) rfl (fun b1 => ?_)
  refine s_alloc (z := .agg zeroH.cells) (by kernel_rfl) (fun b2 => ?_)
  refine s_val (v_assign (v := .slice _ _ _) rfl) ?_
  refine s_nil ?_
  refine c_seq ?_
  refine r_seq (by kernel_rfl) ?_
  refine s_val (v_loadA (m := 42) (by kernel_rfl) rfl (.there .here) (H.size _)) ?_
  refine s_call (by kernel_rfl) (fun w hw => g_Good _ ps w (hp.at hw)) ?_
  refine s_val (v_not rfl) ?_
  refine s_nil ?_
  refine c_condN rfl rfl (fun h10 => ?_) (fun h10 => ?_)
  · refine r_seq (by kernel_rfl) ?_
    refine s_val (v_loadA (m := 42) (by kernel_rfl) rfl (.there .here) (H.size _)) ?_
    refine s_storeA (m := 42) (by kernel_rfl) rfl rfl .here (H.size _) (H.size _) (H.all1 _) ?_
    refine s_val (v_assign (v := .slice _ _ _) rfl) ?_
    refine s_nil ?_
    refine c_ret ?_
    refine n_ret ?_
    refine n_done2F (m := 42) rfl (by decide) (by decide) rfl (by kernel_rfl) .here (H.size _) (fun w hw => ?_)
    have hg : goodB h.core ps = false := h10
    simp only [sweepM, hg, cond_false]
    exact ⟨_, _, rfl, ⟨h, rfl, rfl, hlc, .inl ⟨rfl, rfl, rfl⟩⟩, none, 0, rfl, .inl rfl⟩
  refine c_skip ?_
  refine n_then ?_
  have hg : goodB h.core ps = true := h10
  have hl24 := (good_pays hg).2.2
  have hpl := hp.1
  refine r_seq (by kernel_rfl) ?_
  refine s_val (v_assign (v := .slice _ _ _) rfl) ?_
  refine s_nil ?_
  refine c_block ?_
  refine c_loop (σ := SwG) (fun (s : SwG) f => ∃ g, (SpOk w h ps 3 s ∧ s.bank = 0) ∧ f = (upd (upd (upd g 1 (.pointer (some ⟨b1, 0, none⟩))) 2 (.pointer (some ⟨b2, 0, none⟩))) 4 (s.v))) (fun (s : SwG) => Has w s.F (s.E ++ [(b2, .cells zeroH.cells 29), (b1, .cells s.h.cells 29)])) (fun (s : SwG) => cnt s.ps) ⟨At w, h, ps, [], .slice none 0 0, [], 0, 0⟩ ⟨_, ⟨sp_start hp hlc hg, rfl⟩, live3 rfl rfl rfl⟩ (fun w hw => hw) ?_
  rintro s _ ⟨g, ⟨hok0, hb0⟩, rfl⟩
  refine c_block ?_
  obtain ⟨a4, c4, hv4⟩ := hok0.sw.list.shape
  have hsum0 := hok0.sw.sum
  refine r_seq (by kernel_rfl) ?_
  refine s_val (v_move (v := _) rfl) ?_
  refine s_val (v_lenS (T := 43) (m := 1) (by kernel_rfl) rfl (show s.v = _ from hv4)) ?_
  refine s_val (v_assign (v := .int .i64 _) rfl) ?_
  refine s_nil ?_
  refine c_seq ?_
  refine r_seq (by kernel_rfl) ?_
  refine s_val (v_move (v := .int .i64 _) rfl) ?_
  refine s_nil ?_
  refine c_block ?_
  refine c_loop (σ := SwG) (fun (t : SwG) f => ∃ g, (SpOk w h ps 3 t ∧ t.bank ≤ 4 ∧ s.xs.length ≤ t.xs.length ∧ (t.xs.length = s.xs.length → t.bank ≤ t.idle) ∧ t.xs.length + cnt t.ps = s.xs.length + cnt s.ps) ∧ f = (upd (upd (upd (upd (upd g 1 (.pointer (some ⟨b1, 0, none⟩))) 2 (.pointer (some ⟨b2, 0, none⟩))) 4 (t.v)) 5 (I s.xs.length)) 14 (I t.bank))) (fun (t : SwG) => Has w t.F (t.E ++ [(b2, .cells zeroH.cells 29), (b1, .cells t.h.cells 29)])) (fun (t : SwG) => 4 - t.bank) ⟨s.F, s.h, s.ps, s.xs, s.v, s.E, 0, s.idle⟩ ⟨_, ⟨⟨⟨hok0.sw.pays, hok0.sw.out, hok0.sw.len, hok0.sw.lc, hok0.sw.list, hok0.sw.sum⟩, hok0.seqs, hok0.good, hok0.near, hok0.cl, hok0.i4, show sweepFrom 0 s.idle s.q = sweepM h.core ps by have e := hok0.goes; rw [hb0] at e; exact e⟩, Nat.zero_le _, Nat.le_refl _, fun _ => Nat.zero_le _, rfl⟩, live5 rfl rfl rfl rfl rfl⟩ (fun w hw => hw) ?_
  rintro t _ ⟨g, ⟨hok, hb4, hxl, hid, hcx⟩, rfl⟩
  refine r_seq (by kernel_rfl) ?_
  refine s_val (v_lss (k := .i64) rfl rfl) ?_
  refine s_nil ?_
  refine c_seq ?_
  refine c_condR rfl rfl (fun h15 => ?_) (fun h15 => ?_)
  · have hk4 : t.bank = 4 := by have := of_decide_eq_false h15; omega
    obtain ⟨a5, c5, hv5⟩ := hok.sw.list.shape
    refine c_exit ?_
    refine n_exit ?_
    refine n_exit ?_
    refine n_bhere ?_
    refine n_then ?_
    refine r_seq (by kernel_rfl) ?_
    refine s_val (v_move (v := _) rfl) ?_
    refine s_val (v_lenS (T := 43) (m := 1) (by kernel_rfl) rfl (show t.v = _ from hv5)) ?_
    refine s_val (v_move (v := .int .i64 _) rfl) ?_
    refine s_val (v_eql (k := .i64) rfl rfl) ?_
    refine s_nil ?_
    refine c_condR rfl rfl (fun h30 => ?_) (fun h30 => ?_)
    · refine c_skip ?_
      refine n_bnormal ?_
      refine n_round (s := s) ⟨t.F, t.h, t.ps, t.xs, t.v, t.E, 0, t.idle⟩ ⟨_, ⟨⟨⟨hok.sw.pays, hok.sw.out, hok.sw.len, hok.sw.lc, hok.sw.list, hok.sw.sum⟩, hok.seqs, hok.good, hok.near, hok.cl, hok.i4, show sweepFrom 0 t.idle t.q = sweepM h.core ps by have e := hok.goes; rw [hk4] at e; exact e⟩, rfl⟩, live3 rfl rfl rfl⟩ (fun _ hw => hw) (by have := of_decide_eq_false h30; dsimp only; omega)
    refine r_seq (by kernel_rfl) ?_
    refine s_val (v_loadA (m := 42) (by kernel_rfl) rfl (.app (.there .here)) (H.size _)) ?_
    refine s_val (v_move (v := _) rfl) ?_
    refine s_storeA (m := 42) (by kernel_rfl) rfl rfl (.app .here) (H.size _) (H.size _) (H.all1 _) ?_
    refine s_val (v_assign (v := _) rfl) ?_
    refine s_nil ?_
    refine c_ret ?_
    refine n_bret ?_
    refine n_ret ?_
    refine n_bret ?_
    refine n_done2F (m := 42) rfl (by decide) (by decide) rfl (by kernel_rfl) (.app .here) (H.size _) (fun w hw => ?_)
    have hx := of_decide_eq_true h30
    have hi4 : ¬ t.idle < 4 := by have := hid (by omega); omega
    have e := hok.goes
    rw [sweep_end hi4] at e
    rw [← e]
    exact hok.sw.done hw
  have hk4 : t.bank < 4 := by have := of_decide_eq_true h15; omega
  have hsum := hok.sw.sum
  have hcl := hok.cl
  have hlent := hok.sw.len
  have hlp := hok.sw.pays.1
  refine c_skip ?_
  refine n_then ?_
  refine c_seq ?_
  refine c_block ?_
  refine r_seq (by kernel_rfl) ?_
  refine s_val (v_move (v := .int .i64 _) rfl) ?_
  refine s_val (v_assign (v := .int .i64 _) rfl) ?_
  refine s_nil ?_
  refine r_seq (by kernel_rfl) ?_
  refine s_val (v_assign (v := .slice _ _ _) rfl) ?_
  refine s_nil ?_
  refine r_seq (by kernel_rfl) ?_
  refine s_val (v_loadA (m := 42) (by kernel_rfl) rfl (.app (.there .here)) (H.size _)) ?_
  refine s_val (v_move (v := .int .i64 _) rfl) ?_
  refine s_callG (by kernel_rfl) (sweepF_mono _ _ _) (fun w hw => g_sweepBank t.h t.ps (t.bank : Int) ((ps.length : Int) - cnt t.ps) w (hok.sw.pays.at hw) (by omega) hok.sw.lc hok.seqs hok.good (by omega) (by omega) (by omega) hok.near) (fun F20 v20 hF20 hR20 => ?_)
  obtain ⟨v1, v2, rfl, ⟨h20, rfl, hc20, hl20, ho20⟩, hi20⟩ := hR20
  obtain ⟨a20, c20, rfl, ia20⟩ := hi20.at
  have hdf := drain_facts (t.bank : Int) ⟨t.h.core, t.ps, []⟩
  simp only [List.length_nil, Nat.zero_add] at hdf
  refine s_val (v_move (v := .tuple _) rfl) ?_
  refine s_val (v_extract rfl rfl) ?_
  refine s_val (v_extract rfl rfl) ?_
  refine s_storeA (m := 42) (by kernel_rfl) rfl rfl (.app (.there .here)) (H.size _) (H.size _) (H.all1 _) ?_
  refine s_val (v_assign (v := .slice _ _ _) rfl) ?_
  refine s_nil ?_
  refine r_list (by kernel_rfl) ?_
  refine s_val (v_move (v := _) rfl) ?_
  refine s_val (v_move (v := .slice _ _ _) rfl) ?_
  refine s_pushAll (e := 3) (by_ := 8) (by kernel_rfl) rfl rfl rfl rfl hok.sw.list (ia20.mono (more_young _ _)) (by omega) (fun v25 E25 hE25 => ?_)
  obtain ⟨i25, hok25, hid25⟩ := hok.step hg hl24 hk4 hF20 hc20 hl20 ho20 hE25
  refine s_val (v_assign (v := _) rfl) ?_
  refine s_end ?_
  refine n_bnormal ?_
  refine n_then ?_
  refine r_list (by kernel_rfl) ?_
  refine s_val (v_add rfl rfl (by omega)) ?_
  refine s_val (v_move (v := .int .i64 _) rfl) ?_
  refine s_end ?_
  refine n_round (s := t) ⟨F20, h20, (drain t.bank ⟨t.h.core, t.ps, []⟩).ps, t.xs ++ (drain t.bank ⟨t.h.core, t.ps, []⟩).xs, v25, E25, t.bank + 1, i25⟩ ⟨_, ⟨hok25, hk4, by rw [List.length_append]; omega, fun e => by
      have e0 : (t.xs ++ (drain t.bank ⟨t.h.core, t.ps, []⟩).xs).length = t.xs.length + (drain t.bank ⟨t.h.core, t.ps, []⟩).xs.length := List.length_append
      have e1 := hid25 (by dsimp only at e ⊢; omega)
      have e2 := hid (by dsimp only at e; omega)
      have := hok.i4
      dsimp only
      omega, by dsimp only; rw [List.length_append]; omega⟩, live5 rfl rfl rfl rfl rfl⟩ (fun _ hw => hw) (by dsimp only; omega)

end Go.Proofs.Ytbgnmapmiobjcaa
