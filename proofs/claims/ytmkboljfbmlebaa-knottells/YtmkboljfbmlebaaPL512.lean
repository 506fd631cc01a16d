/- What knotTells_holds stands on, part 12: each part says what it proves. No condition beside those that it names. -/
import Derived.Test.YtmkboljfbmlebaaPL511
/- Contracts of knots. No condition. -/
namespace Go.Proofs.Ytmkboljfbmlebaa
open Go.RowKit
set_option linter.unusedSimpArgs false
set_option linter.unusedVariables false
set_option maxRecDepth 100000
attribute [local irreducible] cC sC nC rC qw

set_option maxHeartbeats 1000000 in
theorem gl_knots  (w : World) : Gives Try.prog 47 [] w (.bool true) := by
  refine gives_of Try.func47 rfl Try.ntmps47 (by simp) ?_
  refine r_seq (by kernel_rfl) ?_
  refine s_val (v_assign (v := .bool _) rfl) ?_
  refine s_nil ?_
  refine r_seq (by kernel_rfl) ?_
  refine s_call (by kernel_rfl) (fun w hw => g_New w) ?_
  refine s_alloc (z := .agg zeroH.cells) (by kernel_rfl) (fun b1 => ?_)
  refine s_storeA (m := 42) (by kernel_rfl) rfl rfl .here (H.size _) (H.size _) (H.all1 _) ?_
  refine s_nil ?_
  refine r_seq (by kernel_rfl) ?_
  refine s_val (v_field (fo := 41) (by kernel_rfl) rfl) ?_
  refine s_store1 (v := .int .i64 _) (by kernel_rfl) rfl rfl .here (H.set_next _) rfl ?_
  refine s_nil ?_
  refine r_seq (by kernel_rfl) ?_
  refine s_val (v_build (vs := [(1, .int .i64 _), (2, .int .i64 _), (4, .int .i64 _), (5, .int .i64 _)]) (cs := PayS.cells ⟨0, 1, 9, 0, 1, 1⟩) rfl (by kernel_rfl)) ?_
  refine s_val (v_build (vs := [(0, .int .i64 _), (1, .int .i64 _), (2, .int .i64 _), (4, .int .i64 _)]) (cs := PayS.cells ⟨1, 0, 9, 0, 1, 0⟩) rfl (by kernel_rfl)) ?_
  refine s_buildS (e := 36) (vs := [(0, .agg _), (1, .agg _)]) (cs := (flatC kPays).toArray) rfl (by kernel_rfl) (fun b8 => ?_)
  refine s_val (v_field (fo := 40) (by kernel_rfl) rfl) ?_
  refine s_store1 (v := .slice _ _ _) (by kernel_rfl) rfl rfl (.there .here) (H.set_pays _) rfl ?_
  refine s_nil ?_
  refine c_forget (E := [_]) (L := [_]) (fun F1 hF1 hK1 => ?_)
  have hpk : PaysIn F1 (some ⟨b8, 0, none⟩) 2 kPays := PaysE.known (pc := 2) ⟨rfl, by decide, .inr ⟨b8, _, _, rfl, rfl, rfl, cellsOf_flat _⟩⟩ hK1
  refine r_seq (by kernel_rfl) ?_
  refine s_val (v_loadA (m := 42) (by kernel_rfl) rfl .here (H.size _)) ?_
  refine s_callG (by kernel_rfl) (sweepF_mono _ _ _) (fun w hw => g_Untie (kHouse (some ⟨b8, 0, none⟩)) kPays w (hpk.at hw) (show 2 * 48 ≤ 281474976710656 by decide) (show 2 ≤ 2 by decide)) (fun F12 v12 hF12 hR12 => ?_)
  obtain ⟨v1, v2, rfl, ⟨h12, rfl, hc12, hl12, ho12⟩, hi12⟩ := hR12
  obtain ⟨a12, c12, rfl, ia12⟩ := hi12.at
  refine s_val (v_move (v := .tuple _) rfl) ?_
  refine s_val (v_extract rfl rfl) ?_
  refine s_val (v_extract rfl rfl) ?_
  refine s_alloc (z := .agg zeroH.cells) (by kernel_rfl) (fun b2 => ?_)
  refine s_storeA (m := 42) (by kernel_rfl) rfl rfl .here (H.size _) (H.size _) (H.all1 _) ?_
  refine s_val (v_assign (v := .slice _ _ _) rfl) ?_
  refine s_nil ?_
  obtain ⟨p, hpd, hsd⟩ := kDone
  have p12 := outPays (F' := F12) (h0 := kHouse (some ⟨b8, 0, none⟩)) hpk hF12 (more_young _ _) ho12
  have hpl : h12.pl = 2 := p12.1.symm.trans (untie_len _ _)
  obtain ⟨bp, op, hpa, hc⟩ := p12.some (k := 0) (by omega)
  refine r_seq (by kernel_rfl) ?_
  refine s_val (v_loadA (m := 42) (by kernel_rfl) rfl (.there .here) (H.size _)) ?_
  refine s_call (by kernel_rfl) (fun w hw => g_Most (kHouse (some ⟨b8, 0, none⟩)) kPays w ((hpk.mono hF12).at hw) (show 2 * 48 ≤ 281474976710656 by decide) (show 2 ≤ 2 by decide)) ?_
  refine s_val (v_build (vs := [(0, .int .i64 _), (1, .int .i64 _)]) (cs := rowA kBest) rfl (by kernel_rfl)) ?_
  refine s_val (v_eqFlat (n := 4) _ _ (by kernel_rfl) rfl rfl (rowA_list _) (rowA_list _) rfl rfl) ?_
  refine s_val (v_move (v := .bool _) rfl) ?_
  refine s_want rfl rfl (decide_eq_true kRow) ?_
  refine s_val (v_move (v := .slice _ _ _) rfl) ?_
  refine s_want rfl rfl (decide_eq_true kRow) ?_
  refine s_val (v_lenS (T := 43) (m := 1) (by kernel_rfl) rfl rfl) ?_
  refine s_want rfl rfl (decide_eq_true kRow) ?_
  refine s_val (v_eql (k := .i64) rfl rfl) ?_
  refine s_val (v_pickT (v := .bool _) rfl (decide_eq_true kRow) rfl) ?_
  refine s_val (v_move (v := .bool _) rfl) ?_
  refine s_want rfl rfl (decide_eq_true kLen) ?_
  refine s_val (v_field (fo := 40) (by kernel_rfl) rfl) ?_
  refine s_want rfl rfl (decide_eq_true kLen) ?_
  refine s_val (v_load1 (v := .slice _ _ _) (by kernel_rfl) rfl .here (H.at_pays _)) ?_
  refine s_want rfl rfl (decide_eq_true kLen) ?_
  refine s_val (v_idxS (size := 6) (k := .i64) (by kernel_rfl) (congrArg (fun a => Value.slice a h12.pl h12.pc) hpa) rfl ⟨by decide, by rw [hpl]; decide⟩) ?_
  refine s_want rfl rfl (decide_eq_true kLen) ?_
  refine s_val (v_field (fo := 4) (by kernel_rfl) rfl) ?_
  refine s_want rfl rfl (decide_eq_true kLen) ?_
  refine s_val (v_load1o (v := I p.sta) (by kernel_rfl) rfl (by simpa using hc 0 p hpd 4 (I p.sta) rfl)) ?_
  refine s_want rfl rfl (decide_eq_true kLen) ?_
  refine s_val (v_eql (k := .i64) rfl rfl) ?_
  refine s_val (v_pickT (v := .bool _) rfl (decide_eq_true kLen) rfl) ?_
  refine s_val (v_assign (v := .bool _) rfl) ?_
  refine s_nil ?_
  refine c_ret ?_
  refine n_done rfl (by decide) (Eq.trans (b := .bool _) rfl (congrArg Value.bool ?_))
  exact decide_eq_true hsd

set_option maxHeartbeats 1000000 in
theorem gk_knots  (w : World) : Gives Try.prog 48 [] w (.bool true) := by
  refine gives_of Try.func48 rfl Try.ntmps48 (by simp) ?_
  refine r_seq (by kernel_rfl) ?_
  refine s_val (v_assign (v := .bool _) rfl) ?_
  refine s_nil ?_
  refine r_seq (by kernel_rfl) ?_
  refine s_call (by kernel_rfl) (fun w hw => g_New w) ?_
  refine s_alloc (z := .agg zeroH.cells) (by kernel_rfl) (fun b1 => ?_)
  refine s_storeA (m := 42) (by kernel_rfl) rfl rfl .here (H.size _) (H.size _) (H.all1 _) ?_
  refine s_nil ?_
  refine r_seq (by kernel_rfl) ?_
  refine s_val (v_field (fo := 41) (by kernel_rfl) rfl) ?_
  refine s_store1 (v := .int .i64 _) (by kernel_rfl) rfl rfl .here (H.set_next _) rfl ?_
  refine s_nil ?_
  refine r_seq (by kernel_rfl) ?_
  refine s_val (v_build (vs := [(1, .int .i64 _), (2, .int .i64 _), (4, .int .i64 _), (5, .int .i64 _)]) (cs := PayS.cells ⟨0, 1, 9, 0, 1, 1⟩) rfl (by kernel_rfl)) ?_
  refine s_val (v_build (vs := [(0, .int .i64 _), (1, .int .i64 _), (2, .int .i64 _), (4, .int .i64 _)]) (cs := PayS.cells ⟨1, 0, 9, 0, 1, 0⟩) rfl (by kernel_rfl)) ?_
  refine s_buildS (e := 36) (vs := [(0, .agg _), (1, .agg _)]) (cs := (flatC kPays).toArray) rfl (by kernel_rfl) (fun b8 => ?_)
  refine s_val (v_field (fo := 40) (by kernel_rfl) rfl) ?_
  refine s_store1 (v := .slice _ _ _) (by kernel_rfl) rfl rfl (.there .here) (H.set_pays _) rfl ?_
  refine s_nil ?_
  refine c_forget (E := [_]) (L := [_]) (fun F1 hF1 hK1 => ?_)
  have hpk : PaysIn F1 (some ⟨b8, 0, none⟩) 2 kPays := PaysE.known (pc := 2) ⟨rfl, by decide, .inr ⟨b8, _, _, rfl, rfl, rfl, cellsOf_flat _⟩⟩ hK1
  refine r_seq (by kernel_rfl) ?_
  refine s_val (v_loadA (m := 42) (by kernel_rfl) rfl .here (H.size _)) ?_
  refine s_callG (by kernel_rfl) (sweepF_mono _ _ _) (fun w hw => g_Untie (kHouse (some ⟨b8, 0, none⟩)) kPays w (hpk.at hw) (show 2 * 48 ≤ 281474976710656 by decide) (show 2 ≤ 2 by decide)) (fun F12 v12 hF12 hR12 => ?_)
  obtain ⟨v1, v2, rfl, ⟨h12, rfl, hc12, hl12, ho12⟩, hi12⟩ := hR12
  obtain ⟨a12, c12, rfl, ia12⟩ := hi12.at
  refine s_val (v_move (v := .tuple _) rfl) ?_
  refine s_val (v_extract rfl rfl) ?_
  refine s_val (v_extract rfl rfl) ?_
  refine s_alloc (z := .agg zeroH.cells) (by kernel_rfl) (fun b2 => ?_)
  refine s_storeA (m := 42) (by kernel_rfl) rfl rfl .here (H.size _) (H.size _) (H.all1 _) ?_
  refine s_val (v_assign (v := .slice _ _ _) rfl) ?_
  refine s_nil ?_
  obtain ⟨p, hpd, hsd⟩ := kDone
  have p12 := outPays (F' := F12) (h0 := kHouse (some ⟨b8, 0, none⟩)) hpk hF12 (more_young _ _) ho12
  have hpl : h12.pl = 2 := p12.1.symm.trans (untie_len _ _)
  obtain ⟨bp, op, hpa, hc⟩ := p12.some (k := 0) (by omega)
  refine r_seq (by kernel_rfl) ?_
  refine s_val (v_loadA (m := 42) (by kernel_rfl) rfl (.there .here) (H.size _)) ?_
  refine s_call (by kernel_rfl) (fun w hw => g_Most (kHouse (some ⟨b8, 0, none⟩)) kPays w ((hpk.mono hF12).at hw) (show 2 * 48 ≤ 281474976710656 by decide) (show 2 ≤ 2 by decide)) ?_
  refine s_val (v_build (vs := [(0, .int .i64 _), (1, .int .i64 _)]) (cs := rowA kBest) rfl (by kernel_rfl)) ?_
  refine s_val (v_eqFlat (n := 4) _ _ (by kernel_rfl) rfl rfl (rowA_list _) (rowA_list _) rfl rfl) ?_
  refine s_val (v_move (v := .bool _) rfl) ?_
  refine s_want rfl rfl (decide_eq_true kRow) ?_
  refine s_val (v_move (v := .slice _ _ _) rfl) ?_
  refine s_want rfl rfl (decide_eq_true kRow) ?_
  refine s_val (v_lenS (T := 43) (m := 1) (by kernel_rfl) rfl rfl) ?_
  refine s_want rfl rfl (decide_eq_true kRow) ?_
  refine s_val (v_eql (k := .i64) rfl rfl) ?_
  refine s_val (v_pickT (v := .bool _) rfl (decide_eq_true kRow) rfl) ?_
  refine s_val (v_move (v := .bool _) rfl) ?_
  refine s_want rfl rfl (decide_eq_true kLen) ?_
  refine s_val (v_field (fo := 40) (by kernel_rfl) rfl) ?_
  refine s_want rfl rfl (decide_eq_true kLen) ?_
  refine s_val (v_load1 (v := .slice _ _ _) (by kernel_rfl) rfl .here (H.at_pays _)) ?_
  refine s_want rfl rfl (decide_eq_true kLen) ?_
  refine s_val (v_idxS (size := 6) (k := .i64) (by kernel_rfl) (congrArg (fun a => Value.slice a h12.pl h12.pc) hpa) rfl ⟨by decide, by rw [hpl]; decide⟩) ?_
  refine s_want rfl rfl (decide_eq_true kLen) ?_
  refine s_val (v_field (fo := 4) (by kernel_rfl) rfl) ?_
  refine s_want rfl rfl (decide_eq_true kLen) ?_
  refine s_val (v_load1o (v := I p.sta) (by kernel_rfl) rfl (by simpa using hc 0 p hpd 4 (I p.sta) rfl)) ?_
  refine s_want rfl rfl (decide_eq_true kLen) ?_
  refine s_val (v_eql (k := .i64) rfl rfl) ?_
  refine s_val (v_pickT (v := .bool _) rfl (decide_eq_true kLen) rfl) ?_
  refine s_val (v_assign (v := .bool _) rfl) ?_
  refine s_nil ?_
  refine c_ret ?_
  refine n_done rfl (by decide) (Eq.trans (b := .bool _) rfl (congrArg Value.bool ?_))
  exact decide_eq_true hsd

end Go.Proofs.Ytmkboljfbmlebaa
/- Contract of the document side of what may be done together. Condition: the payments lie in memory that is known. -/
namespace Go.Proofs.Ytmkboljfbmlebaa
open Go.RowKit
set_option linter.unusedSimpArgs false
set_option linter.unusedVariables false
set_option maxRecDepth 100000
attribute [local irreducible] cC sC nC rC qw

set_option maxHeartbeats 1000000 in
theorem gr_AllTogether (h : H) (ps : List PayS) (n : Int → Int) (w : World) (hp : PaysIn (At w) h.pa h.pl ps) (hb : h.pl * 48 ≤ 281474976710656) (hlc : h.pl ≤ h.pc) : Gives Try.prog 44 [.agg h.cells, .agg (rowA n)] w (.bool (togetherM h ps n)) := by
  refine gives_of Try.func44 rfl Try.ntmps44 (by simp) ?_
  refine r_seq (by kernel_rfl) ?_
  refine s_box (v := .agg _) rfl (fun b2 => ?_)
  refine s_box (v := .agg _) rfl (fun b3 => ?_)
  refine s_val (v_assign (v := .bool _) rfl) ?_
  refine s_nil ?_
  refine c_seq ?_
  refine r_seq (by kernel_rfl) ?_
  refine s_val (v_loadA (m := 42) (by kernel_rfl) rfl (.there .here) (H.size _)) ?_
  refine s_call (by kernel_rfl) (fun w hw => gr_IsHouse _ ps w (hp.at hw) hb hlc) ?_
  refine s_val (v_not rfl) ?_
  refine s_nil ?_
  refine c_condN rfl rfl (fun h14 => ?_) (fun h14 => ?_)
  · refine r_seq (by kernel_rfl) ?_
    refine s_val (v_assign (v := .bool _) rfl) ?_
    refine s_nil ?_
    refine c_ret ?_
    refine n_ret ?_
    refine n_done rfl (by decide) (Eq.trans (b := .bool _) rfl (congrArg Value.bool ?_))
    exact (tog_house ((isHouse_eq hp.1).symm.trans h14)).symm
  refine c_skip ?_
  refine n_then ?_
  refine r_seq (by kernel_rfl) ?_
  refine s_val (v_loadA (m := 42) (by kernel_rfl) rfl (.there .here) (H.size _)) ?_
  refine s_alloc (z := .agg zeroH.cells) (by kernel_rfl) (fun b5 => ?_)
  refine s_storeA (m := 42) (by kernel_rfl) rfl rfl .here (H.size _) (H.size _) (H.all1 _) ?_
  refine s_nil ?_
  refine c_seq ?_
  refine r_seq (by kernel_rfl) ?_
  refine s_val (v_move (v := .int .i64 _) rfl) ?_
  refine s_nil ?_
  refine c_block ?_
  refine c_loop (σ := KF) (fun (s : KF) f => ∃ g, (s.k ≤ 4 ∧ More (At w) s.F ∧ ∀ b : Int, 0 ≤ b → b < s.k → withinB (n b) 0 (queueM ps b).length = true) ∧ f = (upd (upd (upd (upd g 2 (.pointer (some ⟨b2, 0, none⟩))) 3 (.pointer (some ⟨b3, 0, none⟩))) 5 (.pointer (some ⟨b5, 0, none⟩))) 16 (I s.k))) (fun (s : KF) => Has w s.F [(b5, .cells (movesTo h ps n s.k).cells 29), (b3, .cells (rowA n) 25), (b2, .cells h.cells 29)]) (fun (s : KF) => 4 - s.k) ⟨0, At w⟩ ⟨_, ⟨Nat.zero_le _, fun _ _ h => h, fun b h0 h1 => by dsimp only at h1; omega⟩, live4 rfl rfl rfl rfl⟩ (fun w hw => hw) ?_
  rintro s _ ⟨g, ⟨hkl, hmo, hsz⟩, rfl⟩
  refine r_seq (by kernel_rfl) ?_
  refine s_val (v_lss (k := .i64) rfl rfl) ?_
  refine s_nil ?_
  refine c_seq ?_
  refine c_cond rfl rfl (fun h17 => ?_) (fun h17 => ?_)
  · have hk4 : s.k < 4 := by have := of_decide_eq_true h17; omega
    have hki : 0 ≤ (s.k : Int) ∧ (s.k : Int) < 4 := ⟨by omega, by omega⟩
    refine c_skip ?_
    refine n_then ?_
    refine c_seq ?_
    refine c_block ?_
    refine r_seq (by kernel_rfl) ?_
    refine s_val (v_move (v := .int .i64 _) rfl) ?_
    refine s_val (v_assign (v := .int .i64 _) rfl) ?_
    refine s_nil ?_
    refine r_seq (by kernel_rfl) ?_
    refine s_val (v_loadA (m := 42) (by kernel_rfl) rfl (.there (.there .here)) (H.size _)) ?_
    refine s_val (v_move (v := .int .i64 _) rfl) ?_
    refine s_callF (by kernel_rfl) (fun w hw => gr_QueueOf h ps s.k w ((hp.mono hmo).at hw) hb hlc) (fun F21 v21 E21 hF21 hK21 hR21 => ?_)
    obtain ⟨a21, c21, rfl, ia21⟩ := (ints_of_list hR21 hK21).at
    refine s_val (v_assign (v := .slice _ _ _) rfl) ?_
    refine s_nil ?_
    refine c_seq ?_
    refine r_seq (by kernel_rfl) ?_
    refine s_val (v_move (v := .int .i64 _) rfl) ?_
    refine s_val (v_idxA (len := 4) (size := 1) (k := .i64) (by kernel_rfl) rfl rfl (by assumption)) ?_
    refine s_val (v_load1 (v := .int .i64 _) (by kernel_rfl) rfl (.there .here) (rowA_at0 _ (by assumption))) ?_
    refine s_val (v_move (v := .slice _ _ _) rfl) ?_
    refine s_val (v_lenS (T := 43) (m := 1) (by kernel_rfl) rfl rfl) ?_
    refine s_call (by kernel_rfl) (fun w hw => gr_within _ _ _ w) ?_
    refine s_val (v_not rfl) ?_
    refine s_nil ?_
    refine c_condN rfl rfl (fun h28 => ?_) (fun h28 => ?_)
    · refine r_seq (by kernel_rfl) ?_
      refine s_val (v_assign (v := .bool _) rfl) ?_
      refine s_nil ?_
      refine c_ret ?_
      refine n_ret ?_
      refine n_bret ?_
      refine n_ret ?_
      refine n_ret ?_
      refine n_bret ?_
      refine n_ret ?_
      refine n_done rfl (by decide) (Eq.trans (b := .bool _) rfl (congrArg Value.bool ?_))
      exact (tog_size (b := (s.k : Int)) ⟨by omega, by omega⟩ h28).symm
    refine c_skip ?_
    refine n_then ?_
    refine r_seq (by kernel_rfl) ?_
    refine s_val (v_move (v := .int .i64 _) rfl) ?_
    refine s_val (v_idxA (len := 4) (size := 1) (k := .i64) (by kernel_rfl) rfl rfl (by assumption)) ?_
    refine s_val (v_load1 (v := .int .i64 _) (by kernel_rfl) rfl (.there .here) (rowA_at0 _ (by assumption))) ?_
    refine s_val (v_move (v := .int .i64 _) rfl) ?_
    refine s_nil ?_
    refine c_block ?_
    refine c_loop (σ := Nat) (fun (j : Nat) f => ∃ g, (j ≤ (n s.k).toNat) ∧ f = (upd (upd (upd (upd (upd (upd (upd (upd g 2 (.pointer (some ⟨b2, 0, none⟩))) 3 (.pointer (some ⟨b3, 0, none⟩))) 5 (.pointer (some ⟨b5, 0, none⟩))) 6 (I s.k)) 7 (.slice a21 (queueM ps s.k).length c21)) 16 (I s.k)) 31 (I (n s.k))) 32 (I j))) (fun (j : Nat) => Has w F21 [(b5, .cells (moveQ ps s.k (movesTo h ps n s.k) ((queueM ps s.k).take j)).cells 29), (b3, .cells (rowA n) 25), (b2, .cells h.cells 29)]) (fun (j : Nat) => (n s.k).toNat - j) 0 ⟨_, Nat.zero_le _, live8 rfl rfl rfl rfl rfl rfl rfl rfl⟩ (fun w hw => hw) ?_
    rintro j _ ⟨g, hjl, rfl⟩
    refine r_seq (by kernel_rfl) ?_
    refine s_val (v_lss (k := .i64) rfl rfl) ?_
    refine s_nil ?_
    refine c_seq ?_
    refine c_condR rfl rfl (fun h33 => ?_) (fun h33 => ?_)
    · have hws := within_iff.1 h28
      have hjj : j = (n s.k).toNat := by have := of_decide_eq_false h33; omega
      refine c_exit ?_
      refine n_exit ?_
      refine n_exit ?_
      refine n_bhere ?_
      refine n_bnormal ?_
      refine n_then ?_
      refine r_list (by kernel_rfl) ?_
      refine s_val (v_add rfl rfl (by omega)) ?_
      refine s_val (v_move (v := .int .i64 _) rfl) ?_
      refine s_end ?_
      refine n_round (s := s) ⟨s.k + 1, F21⟩ ⟨_, ⟨by dsimp only; omega, fun a v h => hF21 a v (hmo a v h), fun b h0 h1 => by
      dsimp only at h1
      by_cases e : b = (s.k : Int)
      · subst e; exact h28
      · exact hsz b h0 (by omega)⟩, live4 rfl rfl rfl rfl⟩ (fun _ hw => by rw [hjj] at hw; exact hw) (by dsimp only; omega)
    have hj0 := of_decide_eq_true h33
    have hws := within_iff.1 h28
    obtain ⟨bq, oq, i, ha21, hi, hfi⟩ := ia21.get (j := j) (by omega)
    obtain ⟨p, hst, hpi, hsta, hsrc⟩ := (queueM_mine (List.mem_of_getElem? hi)).settles
    have hi0 := (settles_spec hst).1
    have hil : i.toNat < h.pl := by have := (List.getElem?_eq_some_iff.1 hpi).1; have := hp.1; omega
    obtain ⟨bp, op, hpa, hc⟩ := hp.some hil
    have hql := queueM_len ps s.k
    have hpl := hp.1
    refine c_skip ?_
    refine n_then ?_
    refine c_seq ?_
    refine c_block ?_
    refine r_seq (by kernel_rfl) ?_
    refine s_val (v_move (v := .int .i64 _) rfl) ?_
    refine s_val (v_assign (v := .int .i64 _) rfl) ?_
    refine s_nil ?_
    refine t_list (k := 21) (by kernel_rfl) (by kernel_rfl) (fun w hw => hw.drew) (by kernel_rfl) ?_
    refine q_val (v_loadA (m := 42) (by kernel_rfl) rfl .here (H.size _)) ?_
    refine q_val (v_move (v := .int .i64 _) rfl) ?_
    refine q_val (v_field (fo := 40) (by kernel_rfl) rfl) ?_
    refine q_val (v_load1 (v := .slice _ _ _) (by kernel_rfl) rfl (.there (.there .here)) (H.at_pays _)) ?_
    refine q_val (v_move (v := .slice _ _ _) rfl) ?_
    refine q_val (v_move (v := .int .i64 _) rfl) ?_
    refine q_val (v_idxS (size := 1) (k := .i64) (by kernel_rfl) (congrArg (fun a => Value.slice a (queueM ps s.k).length c21) ha21) rfl ⟨by omega, by omega⟩) ?_
    refine q_val (v_load1o (v := I i) (by kernel_rfl) rfl (by simpa using hfi)) ?_
    refine q_val (v_idxS (size := 6) (k := .i64) (by kernel_rfl) (congrArg (fun a => Value.slice a h.pl h.pc) hpa) rfl ⟨by omega, by omega⟩) ?_
    refine q_val (v_field (fo := 1) (by kernel_rfl) rfl) ?_
    refine q_val (v_load1o (by kernel_rfl) rfl (hF21 _ _ (hmo _ _ (hc _ p hpi 1 _ rfl)))) ?_
    refine q_val (v_field (fo := 40) (by kernel_rfl) rfl) ?_
    refine q_val (v_load1 (v := .slice _ _ _) (by kernel_rfl) rfl (.there (.there .here)) (H.at_pays _)) ?_
    refine q_val (v_move (v := .slice _ _ _) rfl) ?_
    refine q_val (v_move (v := .int .i64 _) rfl) ?_
    refine q_val (v_idxS (size := 1) (k := .i64) (by kernel_rfl) (congrArg (fun a => Value.slice a (queueM ps s.k).length c21) ha21) rfl ⟨by omega, by omega⟩) ?_
    refine q_val (v_load1o (v := I i) (by kernel_rfl) rfl (by simpa using hfi)) ?_
    refine q_val (v_idxS (size := 6) (k := .i64) (by kernel_rfl) (congrArg (fun a => Value.slice a h.pl h.pc) hpa) rfl ⟨by omega, by omega⟩) ?_
    refine q_val (v_field (fo := 2) (by kernel_rfl) rfl) ?_
    refine q_val (v_load1o (by kernel_rfl) rfl (hF21 _ _ (hmo _ _ (hc _ p hpi 2 _ rfl)))) ?_
    refine q_call (by kernel_rfl) (fun w hw => gr_MoveSum _ _ _ _ w) ?_
    refine q_tail ?_
    refine s_storeA (m := 42) (by kernel_rfl) rfl rfl .here (H.size _) (H.size _) (H.all1 _) ?_
    refine s_end ?_
    refine n_bnormal ?_
    refine n_then ?_
    refine r_list (by kernel_rfl) ?_
    refine s_val (v_add rfl rfl (by omega)) ?_
    refine s_val (v_move (v := .int .i64 _) rfl) ?_
    refine s_end ?_
    refine n_round (j + 1) ⟨_, (by omega), live8 rfl rfl rfl rfl rfl rfl rfl rfl⟩ (fun _ hw => by rw [moveQ_take hi hpi]; exact hw) (by omega)
  have hk4 : s.k = 4 := by have := of_decide_eq_false h17; omega
  refine c_exit ?_
  refine n_exit ?_
  refine n_exit ?_
  refine n_bhere ?_
  refine n_then ?_
  refine c_seq ?_
  refine r_seq (by kernel_rfl) ?_
  refine s_val (v_move (v := .int .i64 _) rfl) ?_
  refine s_nil ?_
  refine c_block ?_
  refine c_loop (σ := Nat) (fun (k : Nat) f => ∃ g, (k ≤ 4 ∧ ∀ b : Int, 0 ≤ b → b < k → n b = 0 ∨ okBank (movesTo h ps n 4) b = true) ∧ f = (upd (upd (upd (upd g 2 (.pointer (some ⟨b2, 0, none⟩))) 3 (.pointer (some ⟨b3, 0, none⟩))) 5 (.pointer (some ⟨b5, 0, none⟩))) 58 (I k))) (fun (k : Nat) => Has w s.F [(b5, .cells (movesTo h ps n 4).cells 29), (b3, .cells (rowA n) 25), (b2, .cells h.cells 29)]) (fun (k : Nat) => 4 - k) 0 ⟨_, ⟨Nat.zero_le _, fun b h0 h1 => by omega⟩, live4 rfl rfl rfl rfl⟩ (fun w hw => by rw [hk4] at hw; exact hw) ?_
  rintro k _ ⟨g, ⟨hkl2, hok⟩, rfl⟩
  refine r_seq (by kernel_rfl) ?_
  refine s_val (v_lss (k := .i64) rfl rfl) ?_
  refine s_nil ?_
  refine c_seq ?_
  refine c_condR rfl rfl (fun h59 => ?_) (fun h59 => ?_)
  · have hk0 := of_decide_eq_false h59
    refine c_exit ?_
    refine n_exit ?_
    refine n_exit ?_
    refine n_bhere ?_
    refine n_then ?_
    refine r_seq (by kernel_rfl) ?_
    refine s_val (v_assign (v := .bool _) rfl) ?_
    refine s_nil ?_
    refine c_ret ?_
    refine n_done rfl (by decide) (Eq.trans (b := .bool _) rfl (congrArg Value.bool ?_))
    exact (tog_all ((isHouse_eq hp.1).symm.trans h14) (fun b hb => hsz b hb.1 (by omega)) (fun b hb => hok b hb.1 (by omega))).symm
  have hk0 := of_decide_eq_true h59
  have hi : 0 ≤ (k : Int) ∧ (k : Int) < 4 := ⟨by omega, by omega⟩
  refine c_skip ?_
  refine n_then ?_
  refine c_seq ?_
  refine c_block ?_
  refine r_seq (by kernel_rfl) ?_
  refine s_val (v_move (v := .int .i64 _) rfl) ?_
  refine s_val (v_assign (v := .int .i64 _) rfl) ?_
  refine s_nil ?_
  refine c_seq ?_
  refine r_seq (by kernel_rfl) ?_
  refine s_val (v_move (v := .int .i64 _) rfl) ?_
  refine s_val (v_idxA (len := 4) (size := 1) (k := .i64) (by kernel_rfl) rfl rfl (by assumption)) ?_
  refine s_val (v_load1 (v := .int .i64 _) (by kernel_rfl) rfl (.there .here) (rowA_at0 _ (by assumption))) ?_
  refine s_val (v_eql (k := .i64) rfl rfl) ?_
  refine s_nil ?_
  refine c_cond rfl rfl (fun h64 => ?_) (fun h64 => ?_)
  · refine c_exit ?_
    refine n_exit ?_
    refine n_bhere ?_
    refine n_then ?_
    refine r_list (by kernel_rfl) ?_
    refine s_val (v_add rfl rfl (by omega)) ?_
    refine s_val (v_move (v := .int .i64 _) rfl) ?_
    refine s_end ?_
    refine n_round (k + 1) ⟨_, ⟨by omega, fun b h0 h1 => by
      by_cases e : b = (k : Int)
      · subst e; exact .inl (of_decide_eq_true h64)
      · exact hok b h0 (by omega)⟩, live4 rfl rfl rfl rfl⟩ (fun _ hw => hw) (by omega)
  refine c_skip ?_
  refine n_then ?_
  refine c_seq ?_
  refine d_seq (by kernel_rfl) (by kernel_rfl) (fun w hw => hw.drew) (by kernel_rfl) ?_
  refine q_val (v_move (v := .int .i64 _) rfl) ?_
  refine q_val (v_field (fo := 0) (by kernel_rfl) rfl) ?_
  refine q_val (v_idxA (len := 4) (size := 2) (k := .i64) (by kernel_rfl) rfl rfl (by assumption)) ?_
  refine q_val (v_field (fo := 0) (by kernel_rfl) rfl) ?_
  refine q_val (v_load1 (v := .int .i64 _) (by kernel_rfl) rfl .here (H.at_has _ (by assumption))) ?_
  refine q_val (v_move (v := .int .i64 _) rfl) ?_
  refine q_val (v_field (fo := 0) (by kernel_rfl) rfl) ?_
  refine q_val (v_idxA (len := 4) (size := 2) (k := .i64) (by kernel_rfl) rfl rfl (by assumption)) ?_
  refine q_val (v_field (fo := 1) (by kernel_rfl) rfl) ?_
  refine q_val (v_load1 (v := .int .i64 _) (by kernel_rfl) rfl .here (H.at_cred _ (by assumption))) ?_
  refine q_val (v_addw rfl rfl) ?_
  refine q_val (v_lss (k := .i64) rfl rfl) ?_
  refine q_nil ?_
  refine c_cond rfl rfl (fun h76 => ?_) (fun h76 => ?_)
  · refine r_seq (by kernel_rfl) ?_
    refine s_val (v_assign (v := .bool _) rfl) ?_
    refine s_nil ?_
    refine c_ret ?_
    refine n_ret ?_
    refine n_bret ?_
    refine n_ret ?_
    refine n_ret ?_
    refine n_bret ?_
    refine n_ret ?_
    refine n_done rfl (by decide) (Eq.trans (b := .bool _) rfl (congrArg Value.bool ?_))
    exact (tog_ok hi (of_decide_eq_false h64) (ok_left (of_decide_eq_true h76))).symm
  refine c_skip ?_
  refine n_then ?_
  refine r_seq (by kernel_rfl) ?_
  refine s_val (v_move (v := .int .i64 _) rfl) ?_
  refine s_nil ?_
  refine c_block ?_
  refine c_loop (σ := Nat) (fun (m : Nat) f => ∃ g, (m ≤ 4 ∧ ∀ t : Int, 0 ≤ t → t < m → ¬ (0 ≤ (movesTo h ps n 4).lim k t ∧ (movesTo h ps n 4).lim k t < wr ((movesTo h ps n 4).sent k t - (movesTo h ps n 4).sent t k))) ∧ f = (upd (upd (upd (upd (upd (upd g 2 (.pointer (some ⟨b2, 0, none⟩))) 3 (.pointer (some ⟨b3, 0, none⟩))) 5 (.pointer (some ⟨b5, 0, none⟩))) 9 (I k)) 58 (I k)) 77 (I m))) (fun (m : Nat) => Has w s.F [(b5, .cells (movesTo h ps n 4).cells 29), (b3, .cells (rowA n) 25), (b2, .cells h.cells 29)]) (fun (m : Nat) => 4 - m) 0 ⟨_, ⟨Nat.zero_le _, fun t h0 h1 => by omega⟩, live6 rfl rfl rfl rfl rfl rfl⟩ (fun w hw => hw) ?_
  rintro m _ ⟨g, ⟨hml, hlm⟩, rfl⟩
  refine r_seq (by kernel_rfl) ?_
  refine s_val (v_lss (k := .i64) rfl rfl) ?_
  refine s_nil ?_
  refine c_seq ?_
  refine c_condR rfl rfl (fun h78 => ?_) (fun h78 => ?_)
  · have hm0 := of_decide_eq_false h78
    refine c_exit ?_
    refine n_exit ?_
    refine n_exit ?_
    refine n_bhere ?_
    refine n_bnormal ?_
    refine n_then ?_
    refine r_list (by kernel_rfl) ?_
    refine s_val (v_add rfl rfl (by omega)) ?_
    refine s_val (v_move (v := .int .i64 _) rfl) ?_
    refine s_end ?_
    refine n_round (k + 1) ⟨_, ⟨by omega, fun b h0 h1 => by
      by_cases e : b = (k : Int)
      · subst e; exact .inr (ok_all (of_decide_eq_false h76) (fun t ht => hlm t ht.1 (by omega)))
      · exact hok b h0 (by omega)⟩, live4 rfl rfl rfl rfl⟩ (fun _ hw => hw) (by omega)
  have hm0 := of_decide_eq_true h78
  have hm : 0 ≤ (m : Int) ∧ (m : Int) < 4 := ⟨by omega, by omega⟩
  refine c_skip ?_
  refine n_then ?_
  refine c_seq ?_
  refine c_block ?_
  refine r_seq (by kernel_rfl) ?_
  refine s_val (v_move (v := .int .i64 _) rfl) ?_
  refine s_val (v_assign (v := .int .i64 _) rfl) ?_
  refine s_nil ?_
  refine r_seq (by kernel_rfl) ?_
  refine s_val (v_move (v := .int .i64 _) rfl) ?_
  refine s_val (v_move (v := .int .i64 _) rfl) ?_
  refine s_val (v_field (fo := 24) (by kernel_rfl) rfl) ?_
  refine s_val (v_idxA (len := 4) (size := 4) (k := .i64) (by kernel_rfl) rfl rfl (by assumption)) ?_
  refine s_val (v_idxA (len := 4) (size := 1) (k := .i64) (by kernel_rfl) rfl rfl (by assumption)) ?_
  refine s_val (v_load1 (v := .int .i64 _) (by kernel_rfl) rfl .here (H.at_lim _ (by assumption) (by assumption))) ?_
  refine s_val (v_assign (v := .int .i64 _) rfl) ?_
  refine s_nil ?_
  refine d_seq (by kernel_rfl) (by kernel_rfl) (fun w hw => hw.drew) (by kernel_rfl) ?_
  refine q_val (v_move (v := .int .i64 _) rfl) ?_
  refine q_val (v_geq (k := .i64) rfl rfl) ?_
  refine q_val (v_move (v := .bool _) rfl) ?_
  refine q_splitR (s := 88) rfl (fun h88 => ?_) (fun h88 => ?_)
  · refine q_pass rfl rfl h88 ?_
    refine q_pass rfl rfl h88 ?_
    refine q_pass rfl rfl h88 ?_
    refine q_pass rfl rfl h88 ?_
    refine q_pass rfl rfl h88 ?_
    refine q_pass rfl rfl h88 ?_
    refine q_pass rfl rfl h88 ?_
    refine q_pass rfl rfl h88 ?_
    refine q_pass rfl rfl h88 ?_
    refine q_pass rfl rfl h88 ?_
    refine q_pass rfl rfl h88 ?_
    refine q_pass rfl rfl h88 ?_
    refine q_pass rfl rfl h88 ?_
    refine q_pass rfl rfl h88 ?_
    refine q_pass rfl rfl h88 ?_
    refine q_val (v_pickF (v := .bool _) rfl h88 rfl) ?_
    refine q_nil ?_
    refine c_condFh rfl rfl rfl ?_
    refine c_skip ?_
    refine n_bnormal ?_
    refine n_then ?_
    refine r_list (by kernel_rfl) ?_
    refine s_val (v_add rfl rfl (by omega)) ?_
    refine s_val (v_move (v := .int .i64 _) rfl) ?_
    refine s_end ?_
    refine n_round (m + 1) ⟨_, ⟨by omega, fun t h0 h1 => by
      by_cases e : t = (m : Int)
      · subst e; exact fun h => absurd h.1 (of_decide_eq_false h88)
      · exact hlm t h0 (by omega)⟩, live6 rfl rfl rfl rfl rfl rfl⟩ (fun _ hw => hw) (by omega)
  refine q_want rfl rfl h88 ?_
  refine q_val (v_move (v := .int .i64 _) rfl) ?_
  refine q_want rfl rfl h88 ?_
  refine q_val (v_move (v := .int .i64 _) rfl) ?_
  refine q_want rfl rfl h88 ?_
  refine q_val (v_field (fo := 8) (by kernel_rfl) rfl) ?_
  refine q_want rfl rfl h88 ?_
  refine q_val (v_idxA (len := 4) (size := 4) (k := .i64) (by kernel_rfl) rfl rfl (by assumption)) ?_
  refine q_want rfl rfl h88 ?_
  refine q_val (v_idxA (len := 4) (size := 1) (k := .i64) (by kernel_rfl) rfl rfl (by assumption)) ?_
  refine q_want rfl rfl h88 ?_
  refine q_val (v_load1 (v := .int .i64 _) (by kernel_rfl) rfl .here (H.at_sent _ (by assumption) (by assumption))) ?_
  refine q_want rfl rfl h88 ?_
  refine q_val (v_move (v := .int .i64 _) rfl) ?_
  refine q_want rfl rfl h88 ?_
  refine q_val (v_move (v := .int .i64 _) rfl) ?_
  refine q_want rfl rfl h88 ?_
  refine q_val (v_field (fo := 8) (by kernel_rfl) rfl) ?_
  refine q_want rfl rfl h88 ?_
  refine q_val (v_idxA (len := 4) (size := 4) (k := .i64) (by kernel_rfl) rfl rfl (by assumption)) ?_
  refine q_want rfl rfl h88 ?_
  refine q_val (v_idxA (len := 4) (size := 1) (k := .i64) (by kernel_rfl) rfl rfl (by assumption)) ?_
  refine q_want rfl rfl h88 ?_
  refine q_val (v_load1 (v := .int .i64 _) (by kernel_rfl) rfl .here (H.at_sent _ (by assumption) (by assumption))) ?_
  refine q_want rfl rfl h88 ?_
  refine q_val (v_subw rfl rfl) ?_
  refine q_want rfl rfl h88 ?_
  refine q_val (v_move (v := .int .i64 _) rfl) ?_
  refine q_want rfl rfl h88 ?_
  refine q_val (v_gtr (k := .i64) rfl rfl) ?_
  refine q_val (v_pickT (v := .bool _) rfl h88 rfl) ?_
  refine q_nil ?_
  refine c_condR rfl rfl (fun h104 => ?_) (fun h104 => ?_)
  · refine c_skip ?_
    refine n_bnormal ?_
    refine n_then ?_
    refine r_list (by kernel_rfl) ?_
    refine s_val (v_add rfl rfl (by omega)) ?_
    refine s_val (v_move (v := .int .i64 _) rfl) ?_
    refine s_end ?_
    refine n_round (m + 1) ⟨_, ⟨by omega, fun t h0 h1 => by
      by_cases e : t = (m : Int)
      · subst e; exact fun h => absurd h.2 (of_decide_eq_false h104)
      · exact hlm t h0 (by omega)⟩, live6 rfl rfl rfl rfl rfl rfl⟩ (fun _ hw => hw) (by omega)
  refine r_seq (by kernel_rfl) ?_
  refine s_val (v_assign (v := .bool _) rfl) ?_
  refine s_nil ?_
  refine c_ret ?_
  refine n_bret ?_
  refine n_ret ?_
  refine n_ret ?_
  refine n_bret ?_
  refine n_bret ?_
  refine n_ret ?_
  refine n_ret ?_
  refine n_bret ?_
  refine n_ret ?_
  refine n_done rfl (by decide) (Eq.trans (b := .bool _) rfl (congrArg Value.bool ?_))
  exact (tog_ok hi (of_decide_eq_false h64) (ok_lim hm (of_decide_eq_true h88) (of_decide_eq_true h104))).symm

end Go.Proofs.Ytmkboljfbmlebaa
