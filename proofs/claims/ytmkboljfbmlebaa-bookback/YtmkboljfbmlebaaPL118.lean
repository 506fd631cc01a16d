/- What bookBack_holds stands on, part 8: each part says what it proves. No condition beside those that it names. -/
import Derived.Test.YtmkboljfbmlebaaPL117
/- Contracts of books and of the comparison of acts. No condition. -/
namespace Go.Proofs.Ytmkboljfbmlebaa
open Go.RowKit
set_option linter.unusedSimpArgs false
set_option linter.unusedVariables false
set_option maxRecDepth 100000
attribute [local irreducible] cC sC nC rC qw

set_option maxHeartbeats 1000000 in
theorem gl_books  (w : World) : Gives Try.prog 56 [] w (.bool true) := by
  refine gives_of Try.func56 rfl Try.ntmps56 (by simp) ?_
  refine r_seq (by kernel_rfl) ?_
  refine s_val (v_assign (v := .bool _) rfl) ?_
  refine s_nil ?_
  refine r_seq (by kernel_rfl) ?_
  refine s_val (v_build (vs := [(0, .int .i64 _), (1, .int .i64 _), (4, .int .i64 _)]) (cs := bAct.cells) rfl (by kernel_rfl)) ?_
  refine s_call (by kernel_rfl) (fun w hw => g_Frame bAct w) ?_
  refine s_val (v_move (v := .tuple _) rfl) ?_
  refine s_val (v_extract rfl rfl) ?_
  refine s_val (v_extract rfl rfl) ?_
  refine s_val (v_assign (v := S _) rfl) ?_
  refine s_val (v_assign (v := .int .i64 _) rfl) ?_
  refine s_nil ?_
  rw [bFrame]
  refine r_seq (by kernel_rfl) ?_
  refine s_val (v_move (v := S _) rfl) ?_
  refine s_val (v_move (v := S _) rfl) ?_
  refine s_val (v_strAdd rfl rfl (by rw [bLen]; decide)) ?_
  refine s_val (v_strAdd (b := [120]) rfl rfl (by rw [List.length_append, bLen]; decide)) ?_
  refine s_callG (by kernel_rfl) (readF_mono _) (fun w hw => g_Read (bText) w bByt (by simp only [bText, List.length_append, bLen, List.length_cons, List.length_nil]; decide)) (fun F15 v15 hF15 hR15 => ?_)
  obtain ⟨v1, rfl, hA15⟩ := hR15
  obtain ⟨a15, c15, rfl, ia15⟩ := hA15.at
  replace ia15 := ia15.mono (more_young _ _)
  refine s_val (v_move (v := .tuple _) rfl) ?_
  refine s_val (v_extract rfl rfl) ?_
  refine s_val (v_extract rfl rfl) ?_
  refine s_val (v_assign (v := .slice _ _ _) rfl) ?_
  refine s_val (v_assign (v := .int .i64 _) rfl) ?_
  refine s_nil ?_
  rw [bRead] at ia15
  obtain ⟨bb, bo, x, ha, hx, hc⟩ := ia15.get (j := 1) (by decide)
  obtain rfl : bAct = x := by simpa using hx
  refine r_seq (by kernel_rfl) ?_
  refine s_val (v_move (v := .int .i64 _) rfl) ?_
  refine s_val (v_eql (k := .i64) rfl rfl) ?_
  refine s_val (v_move (v := .bool _) rfl) ?_
  refine s_want rfl rfl rfl ?_
  refine s_val (v_move (v := .slice _ _ _) rfl) ?_
  refine s_want rfl rfl rfl ?_
  refine s_val (v_lenS (T := 58) (m := 5) (by kernel_rfl) rfl rfl) ?_
  refine s_want rfl rfl rfl ?_
  refine s_val (v_eql (k := .i64) rfl rfl) ?_
  refine s_val (v_pickT (v := .bool _) rfl rfl rfl) ?_
  refine s_val (v_move (v := .bool _) rfl) ?_
  refine s_want rfl rfl (decide_eq_true (by rw [bRead]; rfl)) ?_
  refine s_val (v_move (v := .int .i64 _) rfl) ?_
  refine s_want rfl rfl (decide_eq_true (by rw [bRead]; rfl)) ?_
  refine s_val (v_move (v := S _) rfl) ?_
  refine s_want rfl rfl (decide_eq_true (by rw [bRead]; rfl)) ?_
  refine s_val (v_strLen (by kernel_rfl) rfl rfl) ?_
  refine s_want rfl rfl (decide_eq_true (by rw [bRead]; rfl)) ?_
  refine s_val (v_mul rfl rfl (by rw [bLen]; decide)) ?_
  refine s_want rfl rfl (decide_eq_true (by rw [bRead]; rfl)) ?_
  refine s_val (v_eql (k := .i64) rfl rfl) ?_
  refine s_val (v_pickT (v := .bool _) rfl (decide_eq_true (by rw [bRead]; rfl)) rfl) ?_
  refine s_val (v_move (v := .bool _) rfl) ?_
  refine s_want rfl rfl (decide_eq_true bBytes) ?_
  refine s_val (v_move (v := .slice _ _ _) rfl) ?_
  refine s_want rfl rfl (decide_eq_true bBytes) ?_
  refine s_val (v_idxS (size := 5) (k := .i64) (by kernel_rfl) (congrArg (fun a => Value.slice a (readM bText).length c15) ha) rfl ⟨by decide, by rw [bRead]; decide⟩) ?_
  refine s_want rfl rfl (decide_eq_true bBytes) ?_
  refine s_val (v_field (fo := 4) (by kernel_rfl) rfl) ?_
  refine s_want rfl rfl (decide_eq_true bBytes) ?_
  refine s_val (v_load1o (v := I 100) (by kernel_rfl) rfl (by simpa using hc 4 (I 100) rfl)) ?_
  refine s_want rfl rfl (decide_eq_true bBytes) ?_
  refine s_val (v_eql (k := .i64) rfl rfl) ?_
  refine s_val (v_pickT (v := .bool _) rfl (decide_eq_true bBytes) rfl) ?_
  refine s_val (v_assign (v := .bool _) rfl) ?_
  refine s_nil ?_
  refine c_ret ?_
  refine n_done rfl (by decide) (Eq.trans (b := .bool _) rfl (congrArg Value.bool ?_))
  rfl

set_option maxHeartbeats 1000000 in
theorem gk_books  (w : World) : Gives Try.prog 57 [] w (.bool true) := by
  refine gives_of Try.func57 rfl Try.ntmps57 (by simp) ?_
  refine r_seq (by kernel_rfl) ?_
  refine s_val (v_assign (v := .bool _) rfl) ?_
  refine s_nil ?_
  refine r_seq (by kernel_rfl) ?_
  refine s_val (v_build (vs := [(0, .int .i64 _), (1, .int .i64 _), (4, .int .i64 _)]) (cs := bAct.cells) rfl (by kernel_rfl)) ?_
  refine s_call (by kernel_rfl) (fun w hw => g_Frame bAct w) ?_
  refine s_val (v_move (v := .tuple _) rfl) ?_
  refine s_val (v_extract rfl rfl) ?_
  refine s_val (v_extract rfl rfl) ?_
  refine s_val (v_assign (v := S _) rfl) ?_
  refine s_val (v_assign (v := .int .i64 _) rfl) ?_
  refine s_nil ?_
  rw [bFrame]
  refine r_seq (by kernel_rfl) ?_
  refine s_val (v_move (v := S _) rfl) ?_
  refine s_val (v_move (v := S _) rfl) ?_
  refine s_val (v_strAdd rfl rfl (by rw [bLen]; decide)) ?_
  refine s_val (v_strAdd (b := [120]) rfl rfl (by rw [List.length_append, bLen]; decide)) ?_
  refine s_callG (by kernel_rfl) (readF_mono _) (fun w hw => g_Read (bText) w bByt (by simp only [bText, List.length_append, bLen, List.length_cons, List.length_nil]; decide)) (fun F15 v15 hF15 hR15 => ?_)
  obtain ⟨v1, rfl, hA15⟩ := hR15
  obtain ⟨a15, c15, rfl, ia15⟩ := hA15.at
  replace ia15 := ia15.mono (more_young _ _)
  refine s_val (v_move (v := .tuple _) rfl) ?_
  refine s_val (v_extract rfl rfl) ?_
  refine s_val (v_extract rfl rfl) ?_
  refine s_val (v_assign (v := .slice _ _ _) rfl) ?_
  refine s_val (v_assign (v := .int .i64 _) rfl) ?_
  refine s_nil ?_
  rw [bRead] at ia15
  obtain ⟨bb, bo, x, ha, hx, hc⟩ := ia15.get (j := 1) (by decide)
  obtain rfl : bAct = x := by simpa using hx
  refine r_seq (by kernel_rfl) ?_
  refine s_val (v_move (v := .int .i64 _) rfl) ?_
  refine s_val (v_eql (k := .i64) rfl rfl) ?_
  refine s_val (v_move (v := .bool _) rfl) ?_
  refine s_want rfl rfl rfl ?_
  refine s_val (v_move (v := .slice _ _ _) rfl) ?_
  refine s_want rfl rfl rfl ?_
  refine s_val (v_lenS (T := 58) (m := 5) (by kernel_rfl) rfl rfl) ?_
  refine s_want rfl rfl rfl ?_
  refine s_val (v_eql (k := .i64) rfl rfl) ?_
  refine s_val (v_pickT (v := .bool _) rfl rfl rfl) ?_
  refine s_val (v_move (v := .bool _) rfl) ?_
  refine s_want rfl rfl (decide_eq_true (by rw [bRead]; rfl)) ?_
  refine s_val (v_move (v := .int .i64 _) rfl) ?_
  refine s_want rfl rfl (decide_eq_true (by rw [bRead]; rfl)) ?_
  refine s_val (v_move (v := S _) rfl) ?_
  refine s_want rfl rfl (decide_eq_true (by rw [bRead]; rfl)) ?_
  refine s_val (v_strLen (by kernel_rfl) rfl rfl) ?_
  refine s_want rfl rfl (decide_eq_true (by rw [bRead]; rfl)) ?_
  refine s_val (v_mul rfl rfl (by rw [bLen]; decide)) ?_
  refine s_want rfl rfl (decide_eq_true (by rw [bRead]; rfl)) ?_
  refine s_val (v_eql (k := .i64) rfl rfl) ?_
  refine s_val (v_pickT (v := .bool _) rfl (decide_eq_true (by rw [bRead]; rfl)) rfl) ?_
  refine s_val (v_move (v := .bool _) rfl) ?_
  refine s_want rfl rfl (decide_eq_true bBytes) ?_
  refine s_val (v_move (v := .slice _ _ _) rfl) ?_
  refine s_want rfl rfl (decide_eq_true bBytes) ?_
  refine s_val (v_idxS (size := 5) (k := .i64) (by kernel_rfl) (congrArg (fun a => Value.slice a (readM bText).length c15) ha) rfl ⟨by decide, by rw [bRead]; decide⟩) ?_
  refine s_want rfl rfl (decide_eq_true bBytes) ?_
  refine s_val (v_field (fo := 4) (by kernel_rfl) rfl) ?_
  refine s_want rfl rfl (decide_eq_true bBytes) ?_
  refine s_val (v_load1o (v := I 100) (by kernel_rfl) rfl (by simpa using hc 4 (I 100) rfl)) ?_
  refine s_want rfl rfl (decide_eq_true bBytes) ?_
  refine s_val (v_eql (k := .i64) rfl rfl) ?_
  refine s_val (v_pickT (v := .bool _) rfl (decide_eq_true bBytes) rfl) ?_
  refine s_val (v_assign (v := .bool _) rfl) ?_
  refine s_nil ?_
  refine c_ret ?_
  refine n_done rfl (by decide) (Eq.trans (b := .bool _) rfl (congrArg Value.bool ?_))
  rfl

theorem gl_sameActs (a1 a2 : Option Addr) (p1 p2 : Nat) (xs ys : List ActS) (w : World) (hx : ActsAt (At w) a1 xs) (hy : ActsAt (At w) a2 ys) (hb : xs.length ≤ 9223372036854775807) : Gives Try.prog 55 [.slice a1 xs.length p1, .slice a2 ys.length p2] w (.bool (decide (xs = ys))) := by
  refine gives_of Try.func55 rfl Try.ntmps55 (by simp) ?_
  refine r_seq (by kernel_rfl) ?_
  refine s_val (v_assign (v := .bool _) rfl) ?_
  refine s_nil ?_
  refine c_seq ?_
  refine r_seq (by kernel_rfl) ?_
  refine s_val (v_move (v := .slice _ _ _) rfl) ?_
  refine s_val (v_lenS (T := 58) (m := 5) (by kernel_rfl) rfl rfl) ?_
  refine s_val (v_move (v := .slice _ _ _) rfl) ?_
  refine s_val (v_lenS (T := 58) (m := 5) (by kernel_rfl) rfl rfl) ?_
  refine s_val (v_neq (k := .i64) rfl rfl) ?_
  refine s_nil ?_
  refine c_condN rfl rfl (fun h10 => ?_) (fun h10 => ?_)
  · refine r_seq (by kernel_rfl) ?_
    refine s_val (v_assign (v := .bool _) rfl) ?_
    refine s_nil ?_
    refine c_ret ?_
    refine n_ret ?_
    refine n_done rfl (by decide) (Eq.trans (b := .bool _) rfl (congrArg Value.bool ?_))
    exact (decide_eq_false (acts_len (of_decide_eq_false h10))).symm
  refine c_skip ?_
  refine n_then ?_
  refine c_seq ?_
  refine r_seq (by kernel_rfl) ?_
  refine s_val (v_move (v := .slice _ _ _) rfl) ?_
  refine s_val (v_lenS (T := 58) (m := 5) (by kernel_rfl) rfl rfl) ?_
  refine s_val (v_move (v := .int .i64 _) rfl) ?_
  refine s_nil ?_
  refine c_block ?_
  refine c_loop (σ := Nat) (fun (j : Nat) f => ∃ g, (j ≤ xs.length ∧ xs.take j = ys.take j) ∧ f = (upd (upd (upd (upd g 0 (.slice a1 xs.length p1)) 1 (.slice a2 ys.length p2)) 12 (I xs.length)) 13 (I j))) (fun (j : Nat) => Has w (At w) []) (fun (j : Nat) => xs.length - j) 0 ⟨_, ⟨Nat.zero_le _, rfl⟩, live4 rfl rfl rfl rfl⟩ (fun w hw => hw) ?_
  rintro j _ ⟨g, ⟨hjl, hinv⟩, rfl⟩
  refine r_seq (by kernel_rfl) ?_
  refine s_val (v_lss (k := .i64) rfl rfl) ?_
  refine s_nil ?_
  refine c_seq ?_
  refine c_condR rfl rfl (fun h14 => ?_) (fun h14 => ?_)
  · refine c_exit ?_
    refine n_exit ?_
    refine n_exit ?_
    refine n_bhere ?_
    refine n_then ?_
    refine r_seq (by kernel_rfl) ?_
    refine s_val (v_assign (v := .bool _) rfl) ?_
    refine s_nil ?_
    refine c_ret ?_
    refine n_done rfl (by decide) (Eq.trans (b := .bool _) rfl (congrArg Value.bool ?_))
    exact (decide_eq_true (acts_all (of_decide_eq_true h10) hinv (of_decide_eq_false h14))).symm
  have hj0 := of_decide_eq_true h14
  have hll := of_decide_eq_true h10
  obtain ⟨b, o, x, ha1, hxj, hcx⟩ := hx.get (j := j) (by omega)
  obtain ⟨b', o', y, ha2, hyj, hcy⟩ := hy.get (j := j) (by omega)
  refine c_skip ?_
  refine n_then ?_
  refine c_seq ?_
  refine c_block ?_
  refine r_seq (by kernel_rfl) ?_
  refine s_val (v_move (v := .int .i64 _) rfl) ?_
  refine s_val (v_assign (v := .int .i64 _) rfl) ?_
  refine s_nil ?_
  refine d_seq (by kernel_rfl) (by kernel_rfl) (fun w hw => hw.drew) (by kernel_rfl) ?_
  refine q_val (v_move (v := .slice _ _ _) rfl) ?_
  refine q_val (v_move (v := .int .i64 _) rfl) ?_
  refine q_val (v_idxS (size := 5) (k := .i64) (by kernel_rfl) (congrArg (fun a => Value.slice a xs.length p1) ha1) rfl ⟨by omega, by omega⟩) ?_
  refine q_val (v_loadNo (cs := x.cells) (m := 5) (by kernel_rfl) rfl rfl (by simpa using hcx)) ?_
  refine q_val (v_move (v := .slice _ _ _) rfl) ?_
  refine q_val (v_move (v := .int .i64 _) rfl) ?_
  refine q_val (v_idxS (size := 5) (k := .i64) (by kernel_rfl) (congrArg (fun a => Value.slice a ys.length p2) ha2) rfl ⟨by omega, by omega⟩) ?_
  refine q_val (v_loadNo (cs := y.cells) (m := 5) (by kernel_rfl) rfl rfl (by simpa using hcy)) ?_
  refine q_val (v_neqFlat (n := 5) _ _ (by kernel_rfl) rfl rfl (ActS.cells_list _) (ActS.cells_list _) rfl rfl) ?_
  refine q_nil ?_
  refine c_condNR rfl rfl (fun h24 => ?_) (fun h24 => ?_)
  · refine c_skip ?_
    refine n_bnormal ?_
    refine n_then ?_
    refine r_list (by kernel_rfl) ?_
    refine s_val (v_add rfl rfl (by omega)) ?_
    refine s_val (v_move (v := .int .i64 _) rfl) ?_
    refine s_end ?_
    refine n_round (j + 1) ⟨_, ⟨by omega, acts_step hinv hxj hyj (of_decide_eq_true h24)⟩, live4 rfl rfl rfl rfl⟩ (fun _ hw => hw) (by omega)
  refine r_seq (by kernel_rfl) ?_
  refine s_val (v_assign (v := .bool _) rfl) ?_
  refine s_nil ?_
  refine c_ret ?_
  refine n_bret ?_
  refine n_ret ?_
  refine n_ret ?_
  refine n_bret ?_
  refine n_ret ?_
  refine n_done rfl (by decide) (Eq.trans (b := .bool _) rfl (congrArg Value.bool ?_))
  exact (decide_eq_false (acts_bad hxj hyj (of_decide_eq_false h24))).symm

end Go.Proofs.Ytmkboljfbmlebaa
/- The law BookBack. Condition: the acts lie in memory that is known. -/
namespace Go.Proofs.Ytmkboljfbmlebaa
open Go.RowKit
set_option linter.unusedSimpArgs false
set_option linter.unusedVariables false
set_option maxRecDepth 100000
attribute [local irreducible] cC sC nC rC qw

set_option maxHeartbeats 1000000 in
theorem law_BookBack (a0 : Option Addr) (c0 : Nat) (xs : List ActS) (cut : Int) (w : World) (hx : ActsAt (At w) a0 xs) (hlx : xs.length ≤ 9223372036854775807) : Gives Try.prog 12 [.slice a0 xs.length c0, I cut] w (.bool true) := by
  refine gives_of Try.func12 rfl Try.ntmps12 (by simp) ?_
  refine r_seq (by kernel_rfl) ?_
  refine s_val (v_assign (v := .bool _) rfl) ?_
  refine s_nil ?_
  refine r_seq (by kernel_rfl) ?_
  refine s_val (v_assign (v := S []) rfl) ?_
  refine s_nil ?_
  refine r_seq (by kernel_rfl) ?_
  refine s_val (v_assign (v := .slice _ _ _) rfl) ?_
  refine s_nil ?_
  refine c_seq ?_
  refine r_seq (by kernel_rfl) ?_
  refine s_val (v_assign (v := .int .i64 _) rfl) ?_
  refine s_nil ?_
  refine c_block ?_
  refine c_loop (σ := BB) (fun (s : BB) f => ∃ g, ((s.k ≤ xs.length ∧ s.k ≤ 100) ∧ (∀ y ∈ xs.take s.k, noted y = true) ∧ ListE 3 1 s.v (endsTo xs s.k).length ((endsTo xs s.k).map I) s.E) ∧ f = (upd (upd (upd (upd (upd g 0 (.slice a0 xs.length c0)) 1 (I cut)) 5 (S (bytesOf (xs.take s.k)))) 6 (s.v)) 7 (I s.k))) (fun (s : BB) => Has w (At w) (s.E ++ [])) (fun (s : BB) => xs.length - s.k) ⟨0, .slice none 0 0, []⟩ ⟨_, ⟨⟨Nat.zero_le _, Nat.zero_le _⟩, by simp, listE_nil _ _⟩, live5 rfl rfl rfl rfl rfl⟩ (fun w hw => hw) ?_
  rintro s _ ⟨g, ⟨⟨hkl, hk100⟩, hal, hE⟩, rfl⟩
  refine c_seq ?_
  refine r_seq (by kernel_rfl) ?_
  refine s_val (v_move (v := .int .i64 _) rfl) ?_
  refine s_val (v_move (v := .slice _ _ _) rfl) ?_
  refine s_val (v_lenS (T := 58) (m := 5) (by kernel_rfl) rfl rfl) ?_
  refine s_val (v_lss (k := .i64) rfl rfl) ?_
  refine s_val (v_move (v := .bool _) rfl) ?_
  refine s_splitR (s := 21) rfl (fun h21 => ?_) (fun h21 => ?_)
  · refine s_pass rfl rfl h21 ?_
    refine s_pass rfl rfl h21 ?_
    refine s_val (v_pickF (v := .bool _) rfl h21 rfl) ?_
    refine s_nil ?_
    refine c_condFh rfl rfl rfl ?_
    refine c_exit ?_
    refine n_exit ?_
    refine n_exit ?_
    refine n_bhere ?_
    refine n_then ?_
    refine c_forget (E := s.E) (L := []) (fun F1 hF1 hK1 => ?_)
    obtain ⟨a6, c6, hv6, ia6⟩ := (ints_of_list hE hK1).at
    rw [ends_len] at hv6
    have hbb := bytes_bound hal
    have hyl : (xs.take s.k).length = s.k := by rw [List.length_take]; omega
    have hcm := cut_mid cut (bytesOf (xs.take s.k)).length
    obtain ⟨m, hm, hmL⟩ := cut_range cut (bytesOf (xs.take s.k)).length
    rw [hv6]
    refine r_seq (by kernel_rfl) ?_
    refine s_val (v_move (v := .int .i64 _) rfl) ?_
    refine s_val (v_move (v := S _) rfl) ?_
    refine s_val (v_strLen (by kernel_rfl) rfl rfl) ?_
    refine s_val (v_add rfl rfl (by omega)) ?_
    refine s_val (v_rem (c := cut.tmod (((bytesOf (xs.take s.k)).length : Int) + 1)) rfl rfl (by omega) rfl) ?_
    refine s_val (v_move (v := S _) rfl) ?_
    refine s_val (v_strLen (by kernel_rfl) rfl rfl) ?_
    refine s_val (v_add rfl rfl (by omega)) ?_
    refine s_val (v_add rfl rfl (by omega)) ?_
    refine s_val (v_move (v := S _) rfl) ?_
    refine s_val (v_strLen (by kernel_rfl) rfl rfl) ?_
    refine s_val (v_add rfl rfl (by omega)) ?_
    refine s_val (v_rem (c := (cut.tmod (((bytesOf (xs.take s.k)).length : Int) + 1) + (bytesOf (xs.take s.k)).length + 1).tmod (((bytesOf (xs.take s.k)).length : Int) + 1)) rfl rfl (by omega) rfl) ?_
    refine s_val (v_assign (v := .int .i64 _) rfl) ?_
    refine s_nil ?_
    rw [hm]
    have hwa := want_all (m := m) hal
    rw [hyl] at hwa
    have hrb := (readM_bytes ((bytesOf (xs.take s.k)).take m)).1.length_le
    rw [List.length_take] at hrb
    have hrn := reads_len ((bytesOf (xs.take s.k)).take m)
    obtain ⟨q, hq⟩ := read_prefix (m := m) hal
    refine r_seq (by kernel_rfl) ?_
    refine s_val (v_move (v := S _) rfl) ?_
    refine s_val (v_move (v := .int .i64 _) rfl) ?_
    refine s_val (v_strHi (by kernel_rfl) rfl rfl ⟨by omega, by omega⟩) ?_
    refine s_callG (by kernel_rfl) (readF_mono _) (fun w hw => g_Read ((bytesOf (xs.take s.k)).take m) w ((bytes_byt hal).take _) (by rw [List.length_take]; omega)) (fun F63 v63 hF63 hR63 => ?_)
    obtain ⟨v1, rfl, hA63⟩ := hR63
    obtain ⟨a63, c63, rfl, ia63⟩ := hA63.at
    replace ia63 := ia63.mono (more_young _ _)
    refine s_val (v_move (v := .tuple _) rfl) ?_
    refine s_val (v_extract rfl rfl) ?_
    refine s_val (v_extract rfl rfl) ?_
    refine s_val (v_assign (v := .slice _ _ _) rfl) ?_
    refine s_val (v_assign (v := .int .i64 _) rfl) ?_
    refine s_nil ?_
    refine r_seq (by kernel_rfl) ?_
    refine s_val (v_assign (v := .int .i64 _) rfl) ?_
    refine s_val (v_assign (v := .int .i64 _) rfl) ?_
    refine s_nil ?_
    refine c_seq ?_
    refine r_seq (by kernel_rfl) ?_
    refine s_val (v_move (v := .slice _ _ _) rfl) ?_
    refine s_val (v_lenS (T := 43) (m := 1) (by kernel_rfl) rfl rfl) ?_
    refine s_val (v_move (v := .int .i64 _) rfl) ?_
    refine s_nil ?_
    refine c_block ?_
    refine c_loop (σ := Nat) (fun (j : Nat) f => ∃ g, (j ≤ s.k) ∧ f = (upd (upd (upd (upd (upd (upd (upd (upd (upd g 0 (.slice a0 xs.length c0)) 1 (I (m : Nat))) 10 (.slice a63 (readM ((bytesOf (xs.take s.k)).take m)).length c63)) 11 (I (bytesOf (readM ((bytesOf (xs.take s.k)).take m))).length)) 12 (I (wantTo (xs.take s.k) m j).1)) 13 (I (wantTo (xs.take s.k) m j).2)) 66 (.slice a6 s.k c6)) 67 (I s.k)) 68 (I j))) (fun (j : Nat) => Has w F63 []) (fun (j : Nat) => s.k - j) 0 ⟨_, Nat.zero_le _, live9 rfl rfl rfl rfl rfl rfl rfl rfl rfl⟩ (fun w hw => hw) ?_
    rintro j _ ⟨g, hjl, rfl⟩
    refine r_seq (by kernel_rfl) ?_
    refine s_val (v_lss (k := .i64) rfl rfl) ?_
    refine s_nil ?_
    refine c_seq ?_
    refine c_cond rfl rfl (fun h69 => ?_) (fun h69 => ?_)
    · have hj0 := of_decide_eq_true h69
      obtain ⟨bq, oq, y, ha6, hyj, hfy⟩ := ia6.get (j := j) (by rw [ends_len]; omega)
      obtain rfl : ((bytesOf (xs.take (j + 1))).length : Int) = y := by rw [ends_get (by omega)] at hyj; simpa using hyj
      have hbj := bytes_mono xs (show j + 1 ≤ s.k by omega)
      have htt : (xs.take s.k).take (j + 1) = xs.take (j + 1) := by rw [List.take_take, Nat.min_eq_left (by omega)]
      refine c_skip ?_
      refine n_then ?_
      refine c_seq ?_
      refine c_block ?_
      refine r_seq (by kernel_rfl) ?_
      refine s_val (v_move (v := .int .i64 _) rfl) ?_
      refine s_val (v_idxS (size := 1) (k := .i64) (by kernel_rfl) (congrArg (fun a => Value.slice a s.k c6) ha6) rfl ⟨by omega, by omega⟩) ?_
      refine s_val (v_load1o (v := I ((bytesOf (xs.take (j + 1))).length : Nat)) (by kernel_rfl) rfl (by simpa using hF63 _ _ hfy)) ?_
      refine s_val (v_assign (v := .int .i64 _) rfl) ?_
      refine s_val (v_assign (v := .int .i64 _) rfl) ?_
      refine s_nil ?_
      refine r_seq (by kernel_rfl) ?_
      refine s_val (v_move (v := .int .i64 _) rfl) ?_
      refine s_val (v_move (v := .int .i64 _) rfl) ?_
      refine s_val (v_leq (k := .i64) rfl rfl) ?_
      refine s_nil ?_
      refine c_condR rfl rfl (fun h75 => ?_) (fun h75 => ?_)
      · refine c_skip ?_
        refine n_bnormal ?_
        refine n_then ?_
        refine r_list (by kernel_rfl) ?_
        refine s_val (v_add rfl rfl (by omega)) ?_
        refine s_val (v_move (v := .int .i64 _) rfl) ?_
        refine s_end ?_
        refine n_round (j + 1) ⟨_, (by omega), live9 rfl rfl rfl rfl (congrArg I (by simp only [wantTo, htt]; rw [if_neg (by have := of_decide_eq_false h75; omega)])) (congrArg I (by simp only [wantTo, htt]; rw [if_neg (by have := of_decide_eq_false h75; omega)])) rfl rfl rfl⟩ (fun _ hw => hw) (by omega)
      refine r_list (by kernel_rfl) ?_
      refine s_val (v_move (v := .int .i64 _) rfl) ?_
      refine s_val (v_add rfl rfl (by omega)) ?_
      refine s_val (v_move (v := .int .i64 _) rfl) ?_
      refine s_val (v_assign (v := .int .i64 _) rfl) ?_
      refine s_val (v_assign (v := .int .i64 _) rfl) ?_
      refine s_end ?_
      refine n_bnormal ?_
      refine n_then ?_
      refine r_list (by kernel_rfl) ?_
      refine s_val (v_add rfl rfl (by omega)) ?_
      refine s_val (v_move (v := .int .i64 _) rfl) ?_
      refine s_end ?_
      refine n_round (j + 1) ⟨_, (by omega), live9 rfl rfl rfl rfl (congrArg I (by simp only [wantTo, htt]; rw [if_pos (by have := of_decide_eq_true h75; omega)]; push_cast; rfl)) (congrArg I (by simp only [wantTo, htt]; rw [if_pos (by have := of_decide_eq_true h75; omega)])) rfl rfl rfl⟩ (fun _ hw => hw) (by omega)
    obtain rfl : j = s.k := by have := of_decide_eq_false h69; omega
    refine c_exit ?_
    refine n_exit ?_
    refine n_exit ?_
    refine n_bhere ?_
    refine n_then ?_
    refine c_seq ?_
    refine r_seq (by kernel_rfl) ?_
    refine s_val (v_move (v := .slice _ _ _) rfl) ?_
    refine s_val (v_lenS (T := 58) (m := 5) (by kernel_rfl) rfl rfl) ?_
    refine s_val (v_move (v := .int .i64 _) rfl) ?_
    refine s_val (v_neq (k := .i64) rfl rfl) ?_
    refine s_val (v_move (v := .bool _) rfl) ?_
    refine s_want rfl rfl (congrArg not (decide_eq_true (by rw [hwa]))) ?_
    refine s_val (v_move (v := .int .i64 _) rfl) ?_
    refine s_want rfl rfl (congrArg not (decide_eq_true (by rw [hwa]))) ?_
    refine s_val (v_move (v := .int .i64 _) rfl) ?_
    refine s_want rfl rfl (congrArg not (decide_eq_true (by rw [hwa]))) ?_
    refine s_val (v_neq (k := .i64) rfl rfl) ?_
    refine s_val (v_pickF (v := .bool _) rfl (congrArg not (decide_eq_true (by rw [hwa]))) rfl) ?_
    refine s_nil ?_
    refine c_condFh rfl rfl (congrArg not (decide_eq_true (by rw [hwa]))) ?_
    refine c_skip ?_
    refine n_then ?_
    refine c_seq ?_
    refine r_seq (by kernel_rfl) ?_
    refine s_val (v_move (v := .slice _ _ _) rfl) ?_
    refine s_val (v_lenS (T := 58) (m := 5) (by kernel_rfl) rfl rfl) ?_
    refine s_val (v_move (v := .int .i64 _) rfl) ?_
    refine s_nil ?_
    refine c_block ?_
    refine c_loop (σ := Nat) (fun (i : Nat) f => ∃ g, (i ≤ (readM ((bytesOf (xs.take s.k)).take m)).length) ∧ f = (upd (upd (upd (upd g 0 (.slice a0 xs.length c0)) 10 (.slice a63 (readM ((bytesOf (xs.take s.k)).take m)).length c63)) 90 (I (readM ((bytesOf (xs.take s.k)).take m)).length)) 91 (I i))) (fun (i : Nat) => Has w F63 []) (fun (i : Nat) => (readM ((bytesOf (xs.take s.k)).take m)).length - i) 0 ⟨_, Nat.zero_le _, live4 rfl rfl rfl rfl⟩ (fun w hw => hw) ?_
    rintro i _ ⟨g, hil0, rfl⟩
    refine r_seq (by kernel_rfl) ?_
    refine s_val (v_lss (k := .i64) rfl rfl) ?_
    refine s_nil ?_
    refine c_seq ?_
    refine c_condR rfl rfl (fun h92 => ?_) (fun h92 => ?_)
    · refine c_exit ?_
      refine n_exit ?_
      refine n_exit ?_
      refine n_bhere ?_
      refine n_then ?_
      refine r_seq (by kernel_rfl) ?_
      refine s_call (by kernel_rfl) (fun w hw => gk_books w) ?_
      refine s_val (v_assign (v := .bool _) rfl) ?_
      refine s_nil ?_
      refine c_ret ?_
      refine n_done rfl (by decide) (Eq.trans (b := .bool _) rfl (congrArg Value.bool ?_))
      rfl
    have hi0 := of_decide_eq_true h92
    obtain ⟨b1, o1, x1, ha63, hx1, hc1⟩ := ia63.get (j := i) (by omega)
    have hx2 : (xs.take s.k)[i]? = some x1 := by
      rw [hq, List.getElem?_take] at hx1
      split at hx1
      · exact hx1
      · cases hx1
    rw [List.getElem?_take] at hx2
    obtain ⟨b0, o0, x0, ha0, hx0, hc0⟩ := hx.get (j := i) (by split at hx2; exact (List.getElem?_eq_some_iff.1 hx2).1; cases hx2)
    obtain rfl : x0 = x1 := by
      split at hx2
      · rw [hx0] at hx2; simpa using hx2
      · cases hx2
    have hil := (List.getElem?_eq_some_iff.1 hx0).1
    refine c_skip ?_
    refine n_then ?_
    refine c_seq ?_
    refine c_block ?_
    refine r_seq (by kernel_rfl) ?_
    refine s_val (v_move (v := .int .i64 _) rfl) ?_
    refine s_val (v_assign (v := .int .i64 _) rfl) ?_
    refine s_nil ?_
    refine d_seq (by kernel_rfl) (by kernel_rfl) (fun w hw => hw.drew) (by kernel_rfl) ?_
    refine q_val (v_move (v := .slice _ _ _) rfl) ?_
    refine q_val (v_move (v := .int .i64 _) rfl) ?_
    refine q_val (v_idxS (size := 5) (k := .i64) (by kernel_rfl) (congrArg (fun a => Value.slice a (readM ((bytesOf (xs.take s.k)).take m)).length c63) ha63) rfl ⟨by omega, by omega⟩) ?_
    refine q_val (v_loadNo (cs := x0.cells) (m := 5) (by kernel_rfl) rfl rfl (by simpa using hc1)) ?_
    refine q_val (v_move (v := .slice _ _ _) rfl) ?_
    refine q_val (v_move (v := .int .i64 _) rfl) ?_
    refine q_val (v_idxS (size := 5) (k := .i64) (by kernel_rfl) (congrArg (fun a => Value.slice a xs.length c0) ha0) rfl ⟨by omega, by omega⟩) ?_
    refine q_val (v_loadNo (cs := x0.cells) (m := 5) (by kernel_rfl) rfl rfl (fun j v hv => hF63 _ _ (hF1 _ _ (by simpa using hc0 j v hv)))) ?_
    refine q_val (v_neqFlat (n := 5) _ _ (by kernel_rfl) rfl rfl (ActS.cells_list _) (ActS.cells_list _) rfl rfl) ?_
    refine q_nil ?_
    refine c_condFh rfl rfl (congrArg not (decide_eq_true rfl)) ?_
    refine c_skip ?_
    refine n_bnormal ?_
    refine n_then ?_
    refine r_list (by kernel_rfl) ?_
    refine s_val (v_add rfl rfl (by omega)) ?_
    refine s_val (v_move (v := .int .i64 _) rfl) ?_
    refine s_end ?_
    refine n_round (i + 1) ⟨_, (by omega), live4 rfl rfl rfl rfl⟩ (fun _ hw => hw) (by omega)
  have hi0 := of_decide_eq_true h21
  refine s_want rfl rfl h21 ?_
  refine s_val (v_move (v := .int .i64 _) rfl) ?_
  refine s_want rfl rfl h21 ?_
  refine s_val (v_lss (k := .i64) rfl rfl) ?_
  refine s_val (v_pickT (v := .bool _) rfl h21 rfl) ?_
  refine s_nil ?_
  refine c_cond rfl rfl (fun h24 => ?_) (fun h24 => ?_)
  · have hi1 := of_decide_eq_true h24
    obtain ⟨b, o, x, ha0, hxj, hcx⟩ := hx.get (j := s.k) (by omega)
    refine c_skip ?_
    refine n_then ?_
    refine c_seq ?_
    refine c_block ?_
    refine r_seq (by kernel_rfl) ?_
    refine s_val (v_move (v := .slice _ _ _) rfl) ?_
    refine s_val (v_move (v := .int .i64 _) rfl) ?_
    refine s_val (v_idxS (size := 5) (k := .i64) (by kernel_rfl) (congrArg (fun a => Value.slice a xs.length c0) ha0) rfl ⟨by omega, by omega⟩) ?_
    refine s_val (v_loadNo (cs := x.cells) (m := 5) (by kernel_rfl) rfl rfl (by simpa using hcx)) ?_
    refine s_call (by kernel_rfl) (fun w hw => g_Frame _ w) ?_
    refine s_val (v_move (v := .tuple _) rfl) ?_
    refine s_val (v_extract rfl rfl) ?_
    refine s_val (v_extract rfl rfl) ?_
    refine s_val (v_assign (v := S _) rfl) ?_
    refine s_val (v_assign (v := .int .i64 _) rfl) ?_
    refine s_nil ?_
    refine c_seq ?_
    refine r_seq (by kernel_rfl) ?_
    refine s_val (v_move (v := .int .i64 _) rfl) ?_
    refine s_val (v_neq (k := .i64) rfl rfl) ?_
    refine s_nil ?_
    refine c_condN rfl rfl (fun h36 => ?_) (fun h36 => ?_)
    · refine r_seq (by kernel_rfl) ?_
      refine s_call (by kernel_rfl) (fun w hw => gk_books w) ?_
      refine s_val (v_assign (v := .bool _) rfl) ?_
      refine s_nil ?_
      refine c_ret ?_
      refine n_ret ?_
      refine n_bret ?_
      refine n_ret ?_
      refine n_ret ?_
      refine n_bret ?_
      refine n_ret ?_
      refine n_done rfl (by decide) (Eq.trans (b := .bool _) rfl (congrArg Value.bool ?_))
      rfl
    have hnx := fErr_ok (of_decide_eq_true h36)
    have hft : fText x = frameOf x := by simp [fText, hnx]
    have hbt := bytes_take hxj
    have hfl := frame_len x
    have hbo := body_len hnx
    have hal2 : ∀ y ∈ xs.take (s.k + 1), noted y = true := fun y hy => by
      rw [List.take_add_one, hxj] at hy
      rcases List.mem_append.1 hy with hy | hy
      · exact hal y hy
      · simp at hy; subst hy; exact hnx
    refine c_skip ?_
    refine n_then ?_
    refine r_seq (by kernel_rfl) ?_
    refine s_val (v_move (v := S _) rfl) ?_
    refine s_val (v_move (v := S _) rfl) ?_
    refine s_val (v_strAdd rfl rfl (by rw [hft]; have := bytes_bound hal; have := List.length_take_le s.k xs; omega)) ?_
    refine s_val (v_assign (v := S _) rfl) ?_
    refine s_nil ?_
    refine r_list (by kernel_rfl) ?_
    refine s_val (v_move (v := _) rfl) ?_
    refine s_val (v_move (v := S _) rfl) ?_
    refine s_val (v_strLen (by kernel_rfl) rfl rfl) ?_
    refine s_build1 (v := .int .i64 _) (e := 3) (m := 1) (by_ := 8) (by kernel_rfl) rfl rfl rfl (fill_scalar rfl) (fun b44 => ?_)
    refine s_push (e := 3) (m := 1) (by_ := 8) (by kernel_rfl) rfl rfl rfl rfl rfl hE rfl (all_scalar rfl rfl) (by rw [ends_len]; omega) (fun v45 E45 hE45 => ?_)
    refine s_val (v_assign (v := _) rfl) ?_
    refine s_end ?_
    refine n_bnormal ?_
    refine n_then ?_
    refine r_list (by kernel_rfl) ?_
    refine s_val (v_move (v := .int .i64 _) rfl) ?_
    refine s_val (v_add rfl rfl (by omega)) ?_
    refine s_val (v_assign (v := .int .i64 _) rfl) ?_
    refine s_end ?_
    refine n_round (s := s) ⟨s.k + 1, v45, E45⟩ ⟨_, ⟨⟨by dsimp only; omega, by dsimp only; omega⟩, hal2, by dsimp only; rw [ends_step, List.map_append, List.length_append, hbt, ← hft]; exact hE45⟩, live5 rfl rfl (congrArg S (by rw [hbt, hft])) rfl rfl⟩ (fun _ hw => hw) (by dsimp only; omega)
  refine c_exit ?_
  refine n_exit ?_
  refine n_exit ?_
  refine n_bhere ?_
  refine n_then ?_
  refine c_forget (E := s.E) (L := []) (fun F1 hF1 hK1 => ?_)
  obtain ⟨a6, c6, hv6, ia6⟩ := (ints_of_list hE hK1).at
  rw [ends_len] at hv6
  have hbb := bytes_bound hal
  have hyl : (xs.take s.k).length = s.k := by rw [List.length_take]; omega
  have hcm := cut_mid cut (bytesOf (xs.take s.k)).length
  obtain ⟨m, hm, hmL⟩ := cut_range cut (bytesOf (xs.take s.k)).length
  rw [hv6]
  refine r_seq (by kernel_rfl) ?_
  refine s_val (v_move (v := .int .i64 _) rfl) ?_
  refine s_val (v_move (v := S _) rfl) ?_
  refine s_val (v_strLen (by kernel_rfl) rfl rfl) ?_
  refine s_val (v_add rfl rfl (by omega)) ?_
  refine s_val (v_rem (c := cut.tmod (((bytesOf (xs.take s.k)).length : Int) + 1)) rfl rfl (by omega) rfl) ?_
  refine s_val (v_move (v := S _) rfl) ?_
  refine s_val (v_strLen (by kernel_rfl) rfl rfl) ?_
  refine s_val (v_add rfl rfl (by omega)) ?_
  refine s_val (v_add rfl rfl (by omega)) ?_
  refine s_val (v_move (v := S _) rfl) ?_
  refine s_val (v_strLen (by kernel_rfl) rfl rfl) ?_
  refine s_val (v_add rfl rfl (by omega)) ?_
  refine s_val (v_rem (c := (cut.tmod (((bytesOf (xs.take s.k)).length : Int) + 1) + (bytesOf (xs.take s.k)).length + 1).tmod (((bytesOf (xs.take s.k)).length : Int) + 1)) rfl rfl (by omega) rfl) ?_
  refine s_val (v_assign (v := .int .i64 _) rfl) ?_
  refine s_nil ?_
  rw [hm]
  have hwa := want_all (m := m) hal
  rw [hyl] at hwa
  have hrb := (readM_bytes ((bytesOf (xs.take s.k)).take m)).1.length_le
  rw [List.length_take] at hrb
  have hrn := reads_len ((bytesOf (xs.take s.k)).take m)
  obtain ⟨q, hq⟩ := read_prefix (m := m) hal
  refine r_seq (by kernel_rfl) ?_
  refine s_val (v_move (v := S _) rfl) ?_
  refine s_val (v_move (v := .int .i64 _) rfl) ?_
  refine s_val (v_strHi (by kernel_rfl) rfl rfl ⟨by omega, by omega⟩) ?_
  refine s_callG (by kernel_rfl) (readF_mono _) (fun w hw => g_Read ((bytesOf (xs.take s.k)).take m) w ((bytes_byt hal).take _) (by rw [List.length_take]; omega)) (fun F63 v63 hF63 hR63 => ?_)
  obtain ⟨v1, rfl, hA63⟩ := hR63
  obtain ⟨a63, c63, rfl, ia63⟩ := hA63.at
  replace ia63 := ia63.mono (more_young _ _)
  refine s_val (v_move (v := .tuple _) rfl) ?_
  refine s_val (v_extract rfl rfl) ?_
  refine s_val (v_extract rfl rfl) ?_
  refine s_val (v_assign (v := .slice _ _ _) rfl) ?_
  refine s_val (v_assign (v := .int .i64 _) rfl) ?_
  refine s_nil ?_
  refine r_seq (by kernel_rfl) ?_
  refine s_val (v_assign (v := .int .i64 _) rfl) ?_
  refine s_val (v_assign (v := .int .i64 _) rfl) ?_
  refine s_nil ?_
  refine c_seq ?_
  refine r_seq (by kernel_rfl) ?_
  refine s_val (v_move (v := .slice _ _ _) rfl) ?_
  refine s_val (v_lenS (T := 43) (m := 1) (by kernel_rfl) rfl rfl) ?_
  refine s_val (v_move (v := .int .i64 _) rfl) ?_
  refine s_nil ?_
  refine c_block ?_
  refine c_loop (σ := Nat) (fun (j : Nat) f => ∃ g, (j ≤ s.k) ∧ f = (upd (upd (upd (upd (upd (upd (upd (upd (upd g 0 (.slice a0 xs.length c0)) 1 (I (m : Nat))) 10 (.slice a63 (readM ((bytesOf (xs.take s.k)).take m)).length c63)) 11 (I (bytesOf (readM ((bytesOf (xs.take s.k)).take m))).length)) 12 (I (wantTo (xs.take s.k) m j).1)) 13 (I (wantTo (xs.take s.k) m j).2)) 66 (.slice a6 s.k c6)) 67 (I s.k)) 68 (I j))) (fun (j : Nat) => Has w F63 []) (fun (j : Nat) => s.k - j) 0 ⟨_, Nat.zero_le _, live9 rfl rfl rfl rfl rfl rfl rfl rfl rfl⟩ (fun w hw => hw) ?_
  rintro j _ ⟨g, hjl, rfl⟩
  refine r_seq (by kernel_rfl) ?_
  refine s_val (v_lss (k := .i64) rfl rfl) ?_
  refine s_nil ?_
  refine c_seq ?_
  refine c_cond rfl rfl (fun h69 => ?_) (fun h69 => ?_)
  · have hj0 := of_decide_eq_true h69
    obtain ⟨bq, oq, y, ha6, hyj, hfy⟩ := ia6.get (j := j) (by rw [ends_len]; omega)
    obtain rfl : ((bytesOf (xs.take (j + 1))).length : Int) = y := by rw [ends_get (by omega)] at hyj; simpa using hyj
    have hbj := bytes_mono xs (show j + 1 ≤ s.k by omega)
    have htt : (xs.take s.k).take (j + 1) = xs.take (j + 1) := by rw [List.take_take, Nat.min_eq_left (by omega)]
    refine c_skip ?_
    refine n_then ?_
    refine c_seq ?_
    refine c_block ?_
    refine r_seq (by kernel_rfl) ?_
    refine s_val (v_move (v := .int .i64 _) rfl) ?_
    refine s_val (v_idxS (size := 1) (k := .i64) (by kernel_rfl) (congrArg (fun a => Value.slice a s.k c6) ha6) rfl ⟨by omega, by omega⟩) ?_
    refine s_val (v_load1o (v := I ((bytesOf (xs.take (j + 1))).length : Nat)) (by kernel_rfl) rfl (by simpa using hF63 _ _ hfy)) ?_
    refine s_val (v_assign (v := .int .i64 _) rfl) ?_
    refine s_val (v_assign (v := .int .i64 _) rfl) ?_
    refine s_nil ?_
    refine r_seq (by kernel_rfl) ?_
    refine s_val (v_move (v := .int .i64 _) rfl) ?_
    refine s_val (v_move (v := .int .i64 _) rfl) ?_
    refine s_val (v_leq (k := .i64) rfl rfl) ?_
    refine s_nil ?_
    refine c_condR rfl rfl (fun h75 => ?_) (fun h75 => ?_)
    · refine c_skip ?_
      refine n_bnormal ?_
      refine n_then ?_
      refine r_list (by kernel_rfl) ?_
      refine s_val (v_add rfl rfl (by omega)) ?_
      refine s_val (v_move (v := .int .i64 _) rfl) ?_
      refine s_end ?_
      refine n_round (j + 1) ⟨_, (by omega), live9 rfl rfl rfl rfl (congrArg I (by simp only [wantTo, htt]; rw [if_neg (by have := of_decide_eq_false h75; omega)])) (congrArg I (by simp only [wantTo, htt]; rw [if_neg (by have := of_decide_eq_false h75; omega)])) rfl rfl rfl⟩ (fun _ hw => hw) (by omega)
    refine r_list (by kernel_rfl) ?_
    refine s_val (v_move (v := .int .i64 _) rfl) ?_
    refine s_val (v_add rfl rfl (by omega)) ?_
    refine s_val (v_move (v := .int .i64 _) rfl) ?_
    refine s_val (v_assign (v := .int .i64 _) rfl) ?_
    refine s_val (v_assign (v := .int .i64 _) rfl) ?_
    refine s_end ?_
    refine n_bnormal ?_
    refine n_then ?_
    refine r_list (by kernel_rfl) ?_
    refine s_val (v_add rfl rfl (by omega)) ?_
    refine s_val (v_move (v := .int .i64 _) rfl) ?_
    refine s_end ?_
    refine n_round (j + 1) ⟨_, (by omega), live9 rfl rfl rfl rfl (congrArg I (by simp only [wantTo, htt]; rw [if_pos (by have := of_decide_eq_true h75; omega)]; push_cast; rfl)) (congrArg I (by simp only [wantTo, htt]; rw [if_pos (by have := of_decide_eq_true h75; omega)])) rfl rfl rfl⟩ (fun _ hw => hw) (by omega)
  obtain rfl : j = s.k := by have := of_decide_eq_false h69; omega
  refine c_exit ?_
  refine n_exit ?_
  refine n_exit ?_
  refine n_bhere ?_
  refine n_then ?_
  refine c_seq ?_
  refine r_seq (by kernel_rfl) ?_
  refine s_val (v_move (v := .slice _ _ _) rfl) ?_
  refine s_val (v_lenS (T := 58) (m := 5) (by kernel_rfl) rfl rfl) ?_
  refine s_val (v_move (v := .int .i64 _) rfl) ?_
  refine s_val (v_neq (k := .i64) rfl rfl) ?_
  refine s_val (v_move (v := .bool _) rfl) ?_
  refine s_want rfl rfl (congrArg not (decide_eq_true (by rw [hwa]))) ?_
  refine s_val (v_move (v := .int .i64 _) rfl) ?_
  refine s_want rfl rfl (congrArg not (decide_eq_true (by rw [hwa]))) ?_
  refine s_val (v_move (v := .int .i64 _) rfl) ?_
  refine s_want rfl rfl (congrArg not (decide_eq_true (by rw [hwa]))) ?_
  refine s_val (v_neq (k := .i64) rfl rfl) ?_
  refine s_val (v_pickF (v := .bool _) rfl (congrArg not (decide_eq_true (by rw [hwa]))) rfl) ?_
  refine s_nil ?_
  refine c_condFh rfl rfl (congrArg not (decide_eq_true (by rw [hwa]))) ?_
  refine c_skip ?_
  refine n_then ?_
  refine c_seq ?_
  refine r_seq (by kernel_rfl) ?_
  refine s_val (v_move (v := .slice _ _ _) rfl) ?_
  refine s_val (v_lenS (T := 58) (m := 5) (by kernel_rfl) rfl rfl) ?_
  refine s_val (v_move (v := .int .i64 _) rfl) ?_
  refine s_nil ?_
  refine c_block ?_
  refine c_loop (σ := Nat) (fun (i : Nat) f => ∃ g, (i ≤ (readM ((bytesOf (xs.take s.k)).take m)).length) ∧ f = (upd (upd (upd (upd g 0 (.slice a0 xs.length c0)) 10 (.slice a63 (readM ((bytesOf (xs.take s.k)).take m)).length c63)) 90 (I (readM ((bytesOf (xs.take s.k)).take m)).length)) 91 (I i))) (fun (i : Nat) => Has w F63 []) (fun (i : Nat) => (readM ((bytesOf (xs.take s.k)).take m)).length - i) 0 ⟨_, Nat.zero_le _, live4 rfl rfl rfl rfl⟩ (fun w hw => hw) ?_
  rintro i _ ⟨g, hil0, rfl⟩
  refine r_seq (by kernel_rfl) ?_
  refine s_val (v_lss (k := .i64) rfl rfl) ?_
  refine s_nil ?_
  refine c_seq ?_
  refine c_condR rfl rfl (fun h92 => ?_) (fun h92 => ?_)
  · refine c_exit ?_
    refine n_exit ?_
    refine n_exit ?_
    refine n_bhere ?_
    refine n_then ?_
    refine r_seq (by kernel_rfl) ?_
    refine s_call (by kernel_rfl) (fun w hw => gk_books w) ?_
    refine s_val (v_assign (v := .bool _) rfl) ?_
    refine s_nil ?_
    refine c_ret ?_
    refine n_done rfl (by decide) (Eq.trans (b := .bool _) rfl (congrArg Value.bool ?_))
    rfl
  have hi0 := of_decide_eq_true h92
  obtain ⟨b1, o1, x1, ha63, hx1, hc1⟩ := ia63.get (j := i) (by omega)
  have hx2 : (xs.take s.k)[i]? = some x1 := by
    rw [hq, List.getElem?_take] at hx1
    split at hx1
    · exact hx1
    · cases hx1
  rw [List.getElem?_take] at hx2
  obtain ⟨b0, o0, x0, ha0, hx0, hc0⟩ := hx.get (j := i) (by split at hx2; exact (List.getElem?_eq_some_iff.1 hx2).1; cases hx2)
  obtain rfl : x0 = x1 := by
    split at hx2
    · rw [hx0] at hx2; simpa using hx2
    · cases hx2
  have hil := (List.getElem?_eq_some_iff.1 hx0).1
  refine c_skip ?_
  refine n_then ?_
  refine c_seq ?_
  refine c_block ?_
  refine r_seq (by kernel_rfl) ?_
  refine s_val (v_move (v := .int .i64 _) rfl) ?_
  refine s_val (v_assign (v := .int .i64 _) rfl) ?_
  refine s_nil ?_
  refine d_seq (by kernel_rfl) (by kernel_rfl) (fun w hw => hw.drew) (by kernel_rfl) ?_
  refine q_val (v_move (v := .slice _ _ _) rfl) ?_
  refine q_val (v_move (v := .int .i64 _) rfl) ?_
  refine q_val (v_idxS (size := 5) (k := .i64) (by kernel_rfl) (congrArg (fun a => Value.slice a (readM ((bytesOf (xs.take s.k)).take m)).length c63) ha63) rfl ⟨by omega, by omega⟩) ?_
  refine q_val (v_loadNo (cs := x0.cells) (m := 5) (by kernel_rfl) rfl rfl (by simpa using hc1)) ?_
  refine q_val (v_move (v := .slice _ _ _) rfl) ?_
  refine q_val (v_move (v := .int .i64 _) rfl) ?_
  refine q_val (v_idxS (size := 5) (k := .i64) (by kernel_rfl) (congrArg (fun a => Value.slice a xs.length c0) ha0) rfl ⟨by omega, by omega⟩) ?_
  refine q_val (v_loadNo (cs := x0.cells) (m := 5) (by kernel_rfl) rfl rfl (fun j v hv => hF63 _ _ (hF1 _ _ (by simpa using hc0 j v hv)))) ?_
  refine q_val (v_neqFlat (n := 5) _ _ (by kernel_rfl) rfl rfl (ActS.cells_list _) (ActS.cells_list _) rfl rfl) ?_
  refine q_nil ?_
  refine c_condFh rfl rfl (congrArg not (decide_eq_true rfl)) ?_
  refine c_skip ?_
  refine n_bnormal ?_
  refine n_then ?_
  refine r_list (by kernel_rfl) ?_
  refine s_val (v_add rfl rfl (by omega)) ?_
  refine s_val (v_move (v := .int .i64 _) rfl) ?_
  refine s_end ?_
  refine n_round (i + 1) ⟨_, (by omega), live4 rfl rfl rfl rfl⟩ (fun _ hw => hw) (by omega)

end Go.Proofs.Ytmkboljfbmlebaa
/- Rows of numbers that come in as arguments. No condition. -/
namespace Go.Proofs.Ytmkboljfbmlebaa
open Go.RowKit
set_option linter.unusedSimpArgs false
set_option linter.unusedVariables false

section
variable {Hh : Type} {enc : TypeId × Value → Hh} {P : Program} {w : World} {base : Nat} {spare : Nat → Bool} {held : Bool}
theorem open_row {T : TypeId} (hB : flatB P 4 T 4 = true) {fuel : Nat} {cs : List Value} {x : DataW Hh × List MemPlace} (hx : DataW.trod enc P w base spare held fuel T cs = some x) : ∃ r : Int → Int, cs.toArray = rowA r := by
  obtain ⟨hl, hI⟩ := read_flat 4 T 4 hB _ _ _ hx
  match cs, hl with
  | [c0, c1, c2, c3], _ =>
    refine ⟨fun i => intV ([c0, c1, c2, c3].getD i.toNat undef), ?_⟩
    have e0 := intV_of (hI c0 (by simp))
    have e1 := intV_of (hI c1 (by simp))
    have e2 := intV_of (hI c2 (by simp))
    have e3 := intV_of (hI c3 (by simp))
    have : rowA (fun i => intV ([c0, c1, c2, c3].getD i.toNat undef)) = #[I (intV c0), I (intV c1), I (intV c2), I (intV c3)] := rfl
    rw [this, e0, e1, e2, e3]
end
end Go.Proofs.Ytmkboljfbmlebaa
/- Rows of numbers, acts and lists of acts that come in as arguments. No condition. -/
namespace Go.Proofs.Ytmkboljfbmlebaa
open Go.RowKit
set_option linter.unusedSimpArgs false
set_option linter.unusedVariables false

section
variable {Hh : Type} {enc : TypeId × Value → Hh} {P : Program} {w : World} {base : Nat} {spare : Nat → Bool} {held : Bool}
theorem open_act {T : TypeId} (hB : flatB P 4 T 5 = true) {fuel : Nat} {cs : List Value} {x : DataW Hh × List MemPlace} (hx : DataW.trod enc P w base spare held fuel T cs = some x) : ∃ a : ActS, cs.toArray = a.cells := by
  obtain ⟨hl, hI⟩ := read_flat 4 T 5 hB _ _ _ hx
  match cs, hl with
  | [c0, c1, c2, c3, c4], _ =>
    refine ⟨⟨intV c0, intV c1, intV c2, intV c3, intV c4⟩, ?_⟩
    have e0 := intV_of (hI c0 (by simp))
    have e1 := intV_of (hI c1 (by simp))
    have e2 := intV_of (hI c2 (by simp))
    have e3 := intV_of (hI c3 (by simp))
    have e4 := intV_of (hI c4 (by simp))
    simp only [ActS.cells]
    rw [e0, e1, e2, e3, e4]
theorem acts_of_slice {e : TypeId} {a : Addr} {len m : Nat} (hm : len ≤ m) (hc : P.cellsOf e = 5) (hf : flatB P 4 e 5 = true) {n : Nat} {D : Nat → DataW Hh} {Pl : Nat → List MemPlace}
    (h : ∀ i, i < m → ∃ cs', w.cells? base (a.add (i * P.cellsOf e)) (P.cellsOf e) = some cs' ∧ DataW.trod enc P w base spare held n e cs' = some (D i, Pl i)) : ∃ xs : List ActS, xs.length = len ∧ ActsAt (At w) (some a) xs := by
  have h' : ∀ i, i < len → ∃ p : ActS, ∀ (k : Nat) (v : Value), p.cells[k]? = some v → w.cell? (a.add (i * 5 + k)) = some v := by
    intro i hi
    obtain ⟨cs', h1, h2⟩ := h i (by omega)
    rw [hc] at h1
    obtain ⟨hl, hI⟩ := read_flat 4 e 5 hf _ _ _ h2
    obtain ⟨_, _, hcell⟩ := World.cells?_some h1
    match cs', hl with
    | [c0, c1, c2, c3, c4], _ =>
      refine ⟨⟨intV c0, intV c1, intV c2, intV c3, intV c4⟩, fun k v hv => ?_⟩
      have e0 := intV_of (hI c0 (by simp))
      have e1 := intV_of (hI c1 (by simp))
      have e2 := intV_of (hI c2 (by simp))
      have e3 := intV_of (hI c3 (by simp))
      have e4 := intV_of (hI c4 (by simp))
      simp only [ActS.cells, e0, e1, e2, e3, e4] at hv
      have hk : k < 5 := by
        rcases Nat.lt_or_ge k 5 with h | h
        · exact h
        · rw [Array.getElem?_eq_none (by simpa using h)] at hv; cases hv
      have := hcell k hk
      rw [Deep.add_add] at this
      rw [this]
      simpa using hv
  by_cases h0 : len = 0
  · exact ⟨[], by rw [h0]; rfl, .inl rfl⟩
  have hsp : a.spot = none := by
    obtain ⟨p, hp⟩ := h' 0 (by omega)
    have := hp 0 (I p.kind) rfl
    simpa [Addr.add] using World.cell?_spot this
  obtain ⟨b, o, sp⟩ := a
  simp at hsp
  subst hsp
  have hch : ∀ i, ∃ p : ActS, i < len → ∀ (k : Nat) (v : Value), p.cells[k]? = some v → w.cell? ⟨b, o + i * 5 + k, none⟩ = some v := by
    intro i
    by_cases hi : i < len
    · obtain ⟨p, hp⟩ := h' i hi
      refine ⟨p, fun _ k v hv => ?_⟩
      have := hp k v hv
      rw [add_off] at this
      rw [Nat.add_assoc]; exact this
    · exact ⟨⟨0, 0, 0, 0, 0⟩, fun hh => absurd hh hi⟩
  refine ⟨(List.range len).map fun i => Classical.choose (hch i), by simp, .inr ⟨b, o, rfl, fun j p hj k v hv => ?_⟩⟩
  have hjl : j < len := by
    have := (List.getElem?_eq_some_iff.1 hj).1
    simpa using this
  have : p = Classical.choose (hch j) := by
    rw [List.getElem?_map, List.getElem?_range hjl] at hj
    simpa using hj.symm
  subst this
  exact Classical.choose_spec (hch j) hjl k v hv
def actsB (P : Program) (T : TypeId) : Bool := match P.underlying T with
  | some (.slice e) => Nat.beq (P.cellsOf e) 5 && flatB P 4 e 5
  | _ => false
theorem open_acts {T : TypeId} (hB : actsB P T = true) {fuel : Nat} {cs : List Value} {x : DataW Hh × List MemPlace} (hx : DataW.trod enc P w base spare held fuel T cs = some x) :
    ∃ (a : Option Addr) (c : Nat) (xs : List ActS), cs = [.slice a xs.length c] ∧ ActsAt (At w) a xs ∧ xs.length ≤ c ∧ c ≤ maxLen := by
  unfold actsB at hB
  split at hB
  · rename_i e hue
    simp only [Bool.and_eq_true] at hB
    obtain ⟨he5, hfe⟩ := hB
    have he5 := Nat.eq_of_beq_eq_true he5
    rcases Deep.open_slice hue hx with ⟨hcs, _⟩ | ⟨a, len, cap, mm, n, D, Pl, hcs, _, hlc, hcm, hmm, _, hel⟩
    · exact ⟨none, 0, [], hcs, .inl rfl, Nat.le_refl _, Nat.zero_le _⟩
    · obtain ⟨xs, hl, hxs⟩ := acts_of_slice (len := len) (by rw [hmm]; split <;> omega) he5 hfe hel
      subst hl
      exact ⟨some a, cap, xs, hcs, hxs, hlc, hcm⟩
  · cases hB
theorem open_actsW {T : TypeId} (hB : actsB P T = true) (hby0 : (match P.underlying T with | some (.slice e) => Nat.beq (P.bytesOf e) 40 | _ => false) = true) {fuel : Nat} {cs : List Value} {x : DataW Hh × List MemPlace} (hx : DataW.trod enc P w base spare held fuel T cs = some x) :
    ∃ (a : Option Addr) (c : Nat) (xs : List ActS), cs = [.slice a xs.length c] ∧ ActsAt (At w) a xs ∧ xs.length ≤ c ∧ c ≤ maxLen ∧ (xs.length = 0 ∨ ∃ m ∈ DataW.weights P T x.1, xs.length * 40 ≤ m) := by
  unfold actsB at hB
  split at hB
  · rename_i e hue
    rw [hue] at hby0
    have hby : P.bytesOf e = 40 := Nat.eq_of_beq_eq_true hby0
    simp only [Bool.and_eq_true] at hB
    obtain ⟨he5, hfe⟩ := hB
    have he5 := Nat.eq_of_beq_eq_true he5
    rcases Deep.open_slice hue hx with ⟨hcs, _⟩ | ⟨a, len, cap, mm, n, D, Pl, hcs, _, hlc, hcm, hmm, hxd, hel⟩
    · exact ⟨none, 0, [], hcs, .inl rfl, Nat.le_refl _, Nat.zero_le _, .inl rfl⟩
    · obtain ⟨xs, hl, hxs⟩ := acts_of_slice (len := len) (by rw [hmm]; split <;> omega) he5 hfe hel
      subst hl
      refine ⟨some a, cap, xs, hcs, hxs, hlc, hcm, .inr ⟨mm * 40, ?_, Nat.mul_le_mul_right _ (by rw [hmm]; split <;> omega)⟩⟩
      rw [hxd]
      simp only [DataW.weights, hue, hby, List.length_map, List.length_range]
      rw [show xs.length + (mm - xs.length) = mm by rw [hmm]; split <;> omega]
      exact List.mem_cons_self
  · cases hB
end
end Go.Proofs.Ytmkboljfbmlebaa
