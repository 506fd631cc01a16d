/- What bookBack_holds stands on, part 10: each part says what it proves. No condition beside those that it names. -/
import Derived.Test.YtbajdhahmmfhcaaPL119
/- Contract of the document side of reading. Condition: a text that is no longer than a few million bytes. -/
namespace Go.Proofs.Ytbajdhahmmfhcaa
open Go.RowKit
set_option linter.unusedSimpArgs false
set_option linter.unusedVariables false
set_option maxRecDepth 100000
attribute [local irreducible] cC sC nC rC qw

set_option maxHeartbeats 4000000 in
theorem gr_ReadBook (l : List Nat) (w : World) (hb : Byt l) (hl : l.length ≤ 8388608) : GivesF Try.prog 52 [S l] w (ReadF l) := by
  refine givesF_of Try.func52 rfl Try.ntmps52 (by simp) ?_
  refine r_seq (by kernel_rfl) ?_
  refine s_val (v_assign (v := .slice _ _ _) rfl) ?_
  refine s_val (v_assign (v := .int .i64 _) rfl) ?_
  refine s_nil ?_
  refine r_seq (by kernel_rfl) ?_
  refine s_val (v_assign (v := .slice _ _ _) rfl) ?_
  refine s_nil ?_
  refine r_seq (by kernel_rfl) ?_
  refine s_val (v_assign (v := .int .i64 _) rfl) ?_
  refine s_nil ?_
  refine c_seq ?_
  refine c_block ?_
  refine c_loop (σ := RB) (fun (s : RB) f => ∃ g, (RbOk 54 l s) ∧ f = (upd (upd (upd g 0 (S l)) 4 (s.v)) 5 (I ((bytesOf s.xs).length : Nat)))) (fun (s : RB) => Has w (At w) (s.E ++ [])) (fun (s : RB) => l.length - (bytesOf s.xs).length) ⟨[], .slice none 0 0, []⟩ ⟨_, ⟨listE_nil _ _, Nat.zero_le _, rfl, Nat.le_refl _⟩, live3 rfl rfl rfl⟩ (fun w hw => hw) ?_
  rintro s _ ⟨g, ho, rfl⟩
  refine c_seq ?_
  refine r_seq (by kernel_rfl) ?_
  refine s_val (v_move (v := .int .i64 _) rfl) ?_
  refine s_val (v_move (v := S _) rfl) ?_
  refine s_val (v_strLen (by kernel_rfl) rfl rfl) ?_
  refine s_val (v_lss (k := .i64) rfl rfl) ?_
  refine s_nil ?_
  refine c_condR rfl rfl (fun h19 => ?_) (fun h19 => ?_)
  · refine c_exit ?_
    refine n_exit ?_
    refine n_exit ?_
    refine n_bhere ?_
    refine n_then ?_
    refine r_seq (by kernel_rfl) ?_
    refine s_val (v_move (v := _) rfl) ?_
    refine s_val (v_move (v := .int .i64 _) rfl) ?_
    refine s_val (v_assign (v := _) rfl) ?_
    refine s_val (v_assign (v := .int .i64 _) rfl) ?_
    refine s_nil ?_
    refine c_ret ?_
    refine n_doneTF rfl (by decide) (by decide) (fun w hw => ?_)
    exact ho.done (by rw [List.drop_eq_nil_of_le (by have := of_decide_eq_false h19; omega)]; rfl) (own_fresh hw)
  have hpos := of_decide_eq_true h19
  obtain ⟨k0, r, hr⟩ : ∃ k0 r, l.drop (bytesOf s.xs).length = k0 :: r := by
    cases hc : l.drop (bytesOf s.xs).length with
    | nil => have := congrArg List.length hc; rw [List.length_drop] at this; simp only [List.length_nil] at this; omega
    | cons k0 r => exact ⟨k0, r, rfl⟩
  have hfront := ho.front
  have hbr : Byt (k0 :: r) := by rw [← hr]; exact hb.drop _
  have hk256 := hbr k0 (by simp)
  have hrl : (k0 :: r).length ≤ l.length := by rw [← hr, List.length_drop]; omega
  refine c_skip ?_
  refine n_then ?_
  refine c_block ?_
  refine r_seq (by kernel_rfl) ?_
  refine s_val (v_move (v := S _) rfl) ?_
  refine s_val (v_move (v := .int .i64 _) rfl) ?_
  refine s_val (v := S (k0 :: r)) (by rw [← hr]; exact v_strLo (a := l) (i := ((bytesOf s.xs).length : Nat)) (by kernel_rfl) rfl rfl ⟨by omega, by omega⟩) ?_
  refine s_val (v_assign (v := S _) rfl) ?_
  refine s_nil ?_
  refine r_seq (by kernel_rfl) ?_
  refine s_val (v_move (v := S _) rfl) ?_
  refine s_val (v_strIdx (by kernel_rfl) rfl rfl (by decide) rfl hk256) ?_
  refine s_val (v_ofU8 (by kernel_rfl) rfl ⟨by omega, by omega⟩) ?_
  refine s_val (v_add rfl rfl (by omega)) ?_
  refine s_val (v_assign (v := .int .i64 _) rfl) ?_
  refine s_nil ?_
  refine c_seq ?_
  refine r_seq (by kernel_rfl) ?_
  refine s_val (v_move (v := S _) rfl) ?_
  refine s_val (v_strLen (by kernel_rfl) rfl rfl) ?_
  refine s_val (v_move (v := .int .i64 _) rfl) ?_
  refine s_val (v_lss (k := .i64) rfl rfl) ?_
  refine s_nil ?_
  refine c_cond rfl rfl (fun h30 => ?_) (fun h30 => ?_)
  · refine c_exit ?_
    refine n_exit ?_
    refine n_bpast rfl ?_
    refine n_exit ?_
    refine n_bhere ?_
    refine n_then ?_
    refine r_seq (by kernel_rfl) ?_
    refine s_val (v_move (v := _) rfl) ?_
    refine s_val (v_move (v := .int .i64 _) rfl) ?_
    refine s_val (v_assign (v := _) rfl) ?_
    refine s_val (v_assign (v := .int .i64 _) rfl) ?_
    refine s_nil ?_
    refine c_ret ?_
    refine n_doneTF rfl (by decide) (by decide) (fun w hw => ?_)
    exact ho.done (by rw [hr]; exact read_short (by have := of_decide_eq_true h30; omega)) (own_fresh hw)
  have hsz := of_decide_eq_false h30
  have hrl2 : r.length + 1 = (k0 :: r).length := rfl
  have hBl : (r.take k0).length = k0 := by rw [List.length_take]; omega
  have hBi : ∀ i : Nat, i < k0 → (r.take k0)[i]? = (k0 :: r)[i + 1]? := fun i hi => by rw [List.getElem?_take, if_pos hi]; rfl
  refine c_skip ?_
  refine n_then ?_
  refine r_seq (by kernel_rfl) ?_
  refine s_alloc (z := .agg (vrow [])) (by kernel_rfl) (fun b8 => ?_)
  refine s_nil ?_
  refine r_seq (by kernel_rfl) ?_
  refine s_val (v_assign (v := .int .i64 _) rfl) ?_
  refine s_val (v_assign (v := .int .i64 _) rfl) ?_
  refine s_nil ?_
  refine c_seq ?_
  refine c_block ?_
  refine c_loop (σ := PG) (fun (t : PG) f => ∃ g, (PgOk k0 (r.take k0) t) ∧ f = (upd (upd (upd (upd (upd (upd (upd (upd g 0 (S l)) 4 (s.v)) 5 (I ((bytesOf s.xs).length : Nat))) 6 (S (k0 :: r))) 7 (I ((k0 : Int) + 3))) 8 (.pointer (some ⟨b8, 0, none⟩))) 9 (I (t.pos : Nat))) 10 (I (t.k : Nat)))) (fun (t : PG) => Has w (At w) ((b8, .cells (vrow t.us) 85) :: (s.E ++ []))) (fun (t : PG) => 5 - t.k) ⟨0, [], 1⟩ ⟨_, ⟨by decide, rfl, ⟨by decide, by dsimp only; omega⟩, rfl⟩, live8 rfl rfl rfl rfl rfl rfl rfl rfl⟩ (fun w hw => hw) ?_
  rintro t _ ⟨g, hpg, rfl⟩
  refine c_seq ?_
  have hk5' := hpg.k5
  have hp1' := hpg.p1
  refine r_seq (by kernel_rfl) ?_
  refine s_val (v_move (v := .int .i64 _) rfl) ?_
  refine s_val (v_lss (k := .i64) rfl rfl) ?_
  refine s_nil ?_
  refine c_condR rfl rfl (fun h32 => ?_) (fun h32 => ?_)
  · have hk55 : t.k = 5 := by have := of_decide_eq_false h32; omega
    refine c_exit ?_
    refine n_exit ?_
    refine n_exit ?_
    refine n_bhere ?_
    refine n_then ?_
    have hrun5 := hpg.run
    rw [hk55] at hrun5
    have hul5 := hpg.ul.trans hk55
    refine r_seq (by kernel_rfl) ?_
    refine s_val (v_idxA (len := 5) (size := 1) (k := .i64) (by kernel_rfl) rfl rfl (by decide)) ?_
    refine s_val (v_load1 (v := I (vnum t.us 0)) (by kernel_rfl) rfl .here (vrow_at t.us 0 (by decide))) ?_
    refine s_val (v_idxA (len := 5) (size := 1) (k := .i64) (by kernel_rfl) rfl rfl (by decide)) ?_
    refine s_val (v_load1 (v := I (vnum t.us 1)) (by kernel_rfl) rfl .here (vrow_at t.us 1 (by decide))) ?_
    refine s_val (v_idxA (len := 5) (size := 1) (k := .i64) (by kernel_rfl) rfl rfl (by decide)) ?_
    refine s_val (v_load1 (v := I (vnum t.us 2)) (by kernel_rfl) rfl .here (vrow_at t.us 2 (by decide))) ?_
    refine s_val (v_idxA (len := 5) (size := 1) (k := .i64) (by kernel_rfl) rfl rfl (by decide)) ?_
    refine s_val (v_load1 (v := I (vnum t.us 3)) (by kernel_rfl) rfl .here (vrow_at t.us 3 (by decide))) ?_
    refine s_val (v_idxA (len := 5) (size := 1) (k := .i64) (by kernel_rfl) rfl rfl (by decide)) ?_
    refine s_val (v_load1 (v := I (vnum t.us 4)) (by kernel_rfl) rfl .here (vrow_at t.us 4 (by decide))) ?_
    refine s_val (v_build (vs := [(0, .int .i64 _), (1, .int .i64 _), (2, .int .i64 _), (3, .int .i64 _), (4, .int .i64 _)]) (cs := (act5 t.us).cells) rfl (by kernel_rfl)) ?_
    refine s_alloc (z := zeroOf Try.prog 54) (by kernel_rfl) (fun b13 => ?_)
    refine s_storeA (m := 5) (by kernel_rfl) rfl rfl .here (by kernel_rfl) rfl (ActS.all1 _) ?_
    refine s_nil ?_
    refine c_seq ?_
    refine r_seq (by kernel_rfl) ?_
    refine s_val (v_loadA (m := 5) (by kernel_rfl) rfl .here rfl) ?_
    refine s_call (by kernel_rfl) (fun w hw => gr_FrameOf (act5 t.us) w) ?_
    refine s_val (v_move (v := .tuple _) rfl) ?_
    refine s_val (v_extract rfl rfl) ?_
    refine s_val (v_extract rfl rfl) ?_
    refine s_val (v_assign (v := S _) rfl) ?_
    refine s_val (v_assign (v := .int .i64 _) rfl) ?_
    refine s_nil ?_
    refine r_seq (by kernel_rfl) ?_
    refine s_val (v_move (v := .int .i64 _) rfl) ?_
    refine s_val (v_lss (k := .i64) rfl rfl) ?_
    refine s_val (v_move (v := .bool _) rfl) ?_
    refine s_want rfl rfl (decide_eq_false (by omega)) ?_
    refine s_val (v_move (v := .int .i64 _) rfl) ?_
    refine s_want rfl rfl (decide_eq_false (by omega)) ?_
    refine s_val (v_neq (k := .i64) rfl rfl) ?_
    refine s_val (v_pickF (v := .bool _) rfl (decide_eq_false (by omega)) rfl) ?_
    refine s_val (v_move (v := .bool _) rfl) ?_
    refine s_splitN (s := 117) rfl (fun h117 => ?_) (fun h117 => ?_)
    · refine s_pass rfl rfl (congrArg not h117) ?_
      refine s_pass rfl rfl (congrArg not h117) ?_
      refine s_pass rfl rfl (congrArg not h117) ?_
      refine s_pass rfl rfl (congrArg not h117) ?_
      refine s_pass rfl rfl (congrArg not h117) ?_
      refine s_val (v_pickT (v := .bool _) rfl (congrArg not h117) rfl) ?_
      refine s_nil ?_
      refine c_condTh rfl rfl rfl ?_
      refine c_exit ?_
      refine n_exit ?_
      refine n_bpast rfl ?_
      refine n_exit ?_
      refine n_bhere ?_
      refine n_then ?_
      refine r_seq (by kernel_rfl) ?_
      refine s_val (v_move (v := _) rfl) ?_
      refine s_val (v_move (v := .int .i64 _) rfl) ?_
      refine s_val (v_assign (v := _) rfl) ?_
      refine s_val (v_assign (v := .int .i64 _) rfl) ?_
      refine s_nil ?_
      refine c_ret ?_
      refine n_doneTF rfl (by decide) (by decide) (fun w hw => ?_)
      exact ho.done (by rw [hr]; exact read_other hrun5 (fun h => absurd (by rw [act5_of hul5]; simp [fErr, h.1]) (of_decide_eq_false h117))) (own_fresh (hw.sub (.cons _ (.cons _ (List.Sublist.refl _)))))
    refine s_want rfl rfl (congrArg not h117) ?_
    refine s_val (v_move (v := S _) rfl) ?_
    refine s_want rfl rfl (congrArg not h117) ?_
    refine s_val (v_move (v := S _) rfl) ?_
    refine s_want rfl rfl (congrArg not h117) ?_
    refine s_val (v_move (v := .int .i64 _) rfl) ?_
    refine s_want rfl rfl (congrArg not h117) ?_
    refine s_val (v_strHi (by kernel_rfl) rfl rfl ⟨by omega, by omega⟩) ?_
    refine s_want rfl rfl (congrArg not h117) ?_
    refine s_val (v_strNe rfl rfl (fText_byt _) (hbr.take _)) ?_
    refine s_val (v_pickF (v := .bool _) rfl (congrArg not h117) rfl) ?_
    refine s_nil ?_
    refine c_condN rfl rfl (fun h123 => ?_) (fun h123 => ?_)
    · refine c_exit ?_
      refine n_exit ?_
      refine n_bpast rfl ?_
      refine n_exit ?_
      refine n_bhere ?_
      refine n_then ?_
      refine r_seq (by kernel_rfl) ?_
      refine s_val (v_move (v := _) rfl) ?_
      refine s_val (v_move (v := .int .i64 _) rfl) ?_
      refine s_val (v_assign (v := _) rfl) ?_
      refine s_val (v_assign (v := .int .i64 _) rfl) ?_
      refine s_nil ?_
      refine c_ret ?_
      refine n_doneTF rfl (by decide) (by decide) (fun w hw => ?_)
      exact ho.done (by rw [hr]; exact read_other hrun5 (fun h => absurd (by rw [act5_of hul5]; simp only [fText, h.1, cond_true]; exact h.2) (of_decide_eq_false h123))) (own_fresh (hw.sub (.cons _ (.cons _ (List.Sublist.refl _)))))
    refine c_skip ?_
    refine n_then ?_
    refine c_weak (C' := Has w (At w) (s.E ++ [(b13, .cells (act5 t.us).cells 54)])) (fun _ hw => by
      have h1 := hw.sub (L' := (b13, .cells (act5 t.us).cells 54) :: (s.E ++ [])) (.cons_cons _ (.cons _ (List.Sublist.refl _)))
      rw [List.append_nil] at h1
      exact h1.perm (List.perm_append_comm (l₁ := [_]))) ?_
    have hn := fErr_ok (of_decide_eq_true h117)
    have hfe := of_decide_eq_true h123
    rw [act5_of hul5] at hn hfe
    simp only [fText, hn, cond_true] at hfe
    have hf := read_this (k0 := k0) (r := r) (us := t.us) hn hfe
    have hbl := (stands_body ((first_iff _ _).1 hf)).1
    rw [← hr, ← act5_of hul5] at hf
    rw [← act5_of hul5] at hbl
    have height := ho.eight
    refine r_list (by kernel_rfl) ?_
    refine s_val (v_move (v := _) rfl) ?_
    refine s_val (v_loadA (m := 5) (by kernel_rfl) rfl (.app .here) rfl) ?_
    refine s_build1 (v := .agg _) (e := 54) (m := 5) (by_ := 40) (by kernel_rfl) rfl rfl rfl (fill_one rfl) (fun b126 => ?_)
    refine s_push (e := 54) (m := 5) (by_ := 40) (by kernel_rfl) rfl rfl rfl rfl rfl ho.list rfl (ActS.all1 _) (by omega) (fun v127 E127 hE127 => ?_)
    refine s_val (v_move (v := .int .i64 _) rfl) ?_
    refine s_val (v_move (v := .int .i64 _) rfl) ?_
    refine s_val (v_add rfl rfl (by omega)) ?_
    refine s_val (v_assign (v := _) rfl) ?_
    refine s_val (v_assign (v := .int .i64 _) rfl) ?_
    refine s_end ?_
    refine n_bnormal ?_
    refine n_round (s := s) ⟨s.xs ++ [act5 t.us], v127, E127⟩ ⟨_, (ho.next hf hE127).1, live3 rfl rfl (congrArg I (by have h1 := (ho.next hf hE127).2; dsimp only; omega))⟩ (fun _ hw => hw.sub (List.Sublist.append (List.Sublist.refl _) (List.nil_sublist _))) (by have h1 := (ho.next hf hE127).2; have h2 := (ho.next hf hE127).1.front; dsimp only at h2 ⊢; omega)
  have hk5 : t.k < 5 := by have := of_decide_eq_true h32; omega
  refine c_skip ?_
  refine n_then ?_
  refine c_seq ?_
  refine c_block ?_
  refine r_seq (by kernel_rfl) ?_
  refine s_val (v_assign (v := .int .i64 _) rfl) ?_
  refine s_val (v_assign (v := .int .i64 _) rfl) ?_
  refine s_nil ?_
  refine c_seq ?_
  refine c_block ?_
  refine c_loop (σ := Nat × Nat) (fun (q : Nat × Nat) f => ∃ g, (Dig ((r.take k0).drop (t.pos - 1)) q.1 q.2) ∧ f = (upd (upd (upd (upd (upd (upd (upd (upd (upd (upd g 0 (S l)) 4 (s.v)) 5 (I ((bytesOf s.xs).length : Nat))) 6 (S (k0 :: r))) 7 (I ((k0 : Int) + 3))) 8 (.pointer (some ⟨b8, 0, none⟩))) 9 (I ((t.pos + q.1 : Nat) : Int))) 10 (I (t.k : Nat))) 11 (I (q.2 : Nat))) 12 (I ((128 ^ q.1 : Nat) : Int)))) (fun (q : Nat × Nat) => Has w (At w) ((b8, .cells (vrow t.us) 85) :: (s.E ++ []))) (fun (q : Nat × Nat) => 6 - q.1) (0, 0) ⟨_, dig_start _, live10 rfl rfl rfl rfl rfl rfl rfl rfl rfl rfl⟩ (fun w hw => hw) ?_
  rintro q _ ⟨g, hd, rfl⟩
  refine c_seq ?_
  have hdl : q.1 ≤ ((r.take k0).drop (t.pos - 1)).length := hd.jl
  rw [List.length_drop, hBl] at hdl
  have hp1 := hpg.p1
  have hj6 := hd.j6
  have hpw := pow_le42 hd.j6
  have hub := hd.ub
  have hu42 : q.2 < 4398046511104 := by omega
  refine r_seq (by kernel_rfl) ?_
  refine s_val (v_move (v := .int .i64 _) rfl) ?_
  refine s_val (v_move (v := .int .i64 _) rfl) ?_
  refine s_val (v_sub rfl rfl (by omega)) ?_
  refine s_val (v_lss (k := .i64) rfl rfl) ?_
  refine s_val (v_move (v := .bool _) rfl) ?_
  refine s_splitR (s := 39) rfl (fun h39 => ?_) (fun h39 => ?_)
  · refine s_pass rfl rfl h39 ?_
    refine s_pass rfl rfl h39 ?_
    refine s_pass rfl rfl h39 ?_
    refine s_pass rfl rfl h39 ?_
    refine s_val (v_pickF (v := .bool _) rfl h39 rfl) ?_
    refine s_val (v_move (v := .bool _) rfl) ?_
    refine s_pass (g := false) rfl rfl rfl ?_
    refine s_pass (g := false) rfl rfl rfl ?_
    refine s_val (v_pickF (v := .bool _) rfl rfl rfl) ?_
    refine s_nil ?_
    refine c_condFh rfl rfl rfl ?_
    refine c_exit ?_
    refine n_exit ?_
    refine n_exit ?_
    refine n_bhere ?_
    refine n_then ?_
    refine c_seq ?_
    refine r_seq (by kernel_rfl) ?_
    refine s_val (v_move (v := .int .i64 _) rfl) ?_
    refine s_val (v_move (v := .int .i64 _) rfl) ?_
    refine s_val (v_sub rfl rfl (by omega)) ?_
    refine s_val (v_geq (k := .i64) rfl rfl) ?_
    refine s_val (v_move (v := .bool _) rfl) ?_
    refine s_pass rfl rfl (decide_eq_true (by have := of_decide_eq_false h39; omega)) ?_
    refine s_pass rfl rfl (decide_eq_true (by have := of_decide_eq_false h39; omega)) ?_
    refine s_pass rfl rfl (decide_eq_true (by have := of_decide_eq_false h39; omega)) ?_
    refine s_pass rfl rfl (decide_eq_true (by have := of_decide_eq_false h39; omega)) ?_
    refine s_val (v_pickT (v := .bool _) rfl (decide_eq_true (by have := of_decide_eq_false h39; omega)) rfl) ?_
    refine s_nil ?_
    refine c_condTh rfl rfl rfl ?_
    refine c_exit ?_
    refine n_exit ?_
    refine n_bpast rfl ?_
    refine n_exit ?_
    refine n_exit ?_
    refine n_bhere ?_
    refine n_then ?_
    have hnone := hd.stop (by rw [List.length_drop, hBl]; have := of_decide_eq_false h39; omega)
    refine r_seq (by kernel_rfl) ?_
    refine s_val (v_idxA (len := 5) (size := 1) (k := .i64) (by kernel_rfl) rfl rfl (by decide)) ?_
    refine s_val (v_load1 (v := I (vnum t.us 0)) (by kernel_rfl) rfl .here (vrow_at t.us 0 (by decide))) ?_
    refine s_val (v_idxA (len := 5) (size := 1) (k := .i64) (by kernel_rfl) rfl rfl (by decide)) ?_
    refine s_val (v_load1 (v := I (vnum t.us 1)) (by kernel_rfl) rfl .here (vrow_at t.us 1 (by decide))) ?_
    refine s_val (v_idxA (len := 5) (size := 1) (k := .i64) (by kernel_rfl) rfl rfl (by decide)) ?_
    refine s_val (v_load1 (v := I (vnum t.us 2)) (by kernel_rfl) rfl .here (vrow_at t.us 2 (by decide))) ?_
    refine s_val (v_idxA (len := 5) (size := 1) (k := .i64) (by kernel_rfl) rfl rfl (by decide)) ?_
    refine s_val (v_load1 (v := I (vnum t.us 3)) (by kernel_rfl) rfl .here (vrow_at t.us 3 (by decide))) ?_
    refine s_val (v_idxA (len := 5) (size := 1) (k := .i64) (by kernel_rfl) rfl rfl (by decide)) ?_
    refine s_val (v_load1 (v := I (vnum t.us 4)) (by kernel_rfl) rfl .here (vrow_at t.us 4 (by decide))) ?_
    refine s_val (v_build (vs := [(0, .int .i64 _), (1, .int .i64 _), (2, .int .i64 _), (3, .int .i64 _), (4, .int .i64 _)]) (cs := (act5 t.us).cells) rfl (by kernel_rfl)) ?_
    refine s_alloc (z := zeroOf Try.prog 54) (by kernel_rfl) (fun b13 => ?_)
    refine s_storeA (m := 5) (by kernel_rfl) rfl rfl .here (by kernel_rfl) rfl (ActS.all1 _) ?_
    refine s_nil ?_
    refine c_seq ?_
    refine r_seq (by kernel_rfl) ?_
    refine s_val (v_loadA (m := 5) (by kernel_rfl) rfl .here rfl) ?_
    refine s_call (by kernel_rfl) (fun w hw => gr_FrameOf (act5 t.us) w) ?_
    refine s_val (v_move (v := .tuple _) rfl) ?_
    refine s_val (v_extract rfl rfl) ?_
    refine s_val (v_extract rfl rfl) ?_
    refine s_val (v_assign (v := S _) rfl) ?_
    refine s_val (v_assign (v := .int .i64 _) rfl) ?_
    refine s_nil ?_
    refine r_seq (by kernel_rfl) ?_
    refine s_val (v_move (v := .int .i64 _) rfl) ?_
    refine s_val (v_lss (k := .i64) rfl rfl) ?_
    refine s_val (v_move (v := .bool _) rfl) ?_
    refine s_pass rfl rfl (decide_eq_true (by omega)) ?_
    refine s_pass rfl rfl (decide_eq_true (by omega)) ?_
    refine s_val (v_pickT (v := .bool _) rfl (decide_eq_true (by omega)) rfl) ?_
    refine s_val (v_move (v := .bool _) rfl) ?_
    refine s_pass (g := true) rfl rfl rfl ?_
    refine s_pass (g := true) rfl rfl rfl ?_
    refine s_pass (g := true) rfl rfl rfl ?_
    refine s_pass (g := true) rfl rfl rfl ?_
    refine s_pass (g := true) rfl rfl rfl ?_
    refine s_val (v_pickT (v := .bool _) rfl rfl rfl) ?_
    refine s_nil ?_
    refine c_condTh rfl rfl rfl ?_
    refine c_exit ?_
    refine n_exit ?_
    refine n_bpast rfl ?_
    refine n_exit ?_
    refine n_bhere ?_
    refine n_then ?_
    refine r_seq (by kernel_rfl) ?_
    refine s_val (v_move (v := _) rfl) ?_
    refine s_val (v_move (v := .int .i64 _) rfl) ?_
    refine s_val (v_assign (v := _) rfl) ?_
    refine s_val (v_assign (v := .int .i64 _) rfl) ?_
    refine s_nil ?_
    refine c_ret ?_
    refine n_doneTF rfl (by decide) (by decide) (fun w hw => ?_)
    exact ho.done (by rw [hr]; exact hpg.broken hk5 hnone) (own_fresh (hw.sub (.cons _ (.cons _ (List.Sublist.refl _)))))
  have hin := of_decide_eq_true h39
  obtain ⟨b, hbb⟩ : ∃ b, ((r.take k0).drop (t.pos - 1))[q.1]? = some b := ⟨((r.take k0).drop (t.pos - 1))[q.1]'(by rw [List.length_drop]; omega), List.getElem?_eq_getElem _⟩
  have hbi : (k0 :: r)[t.pos + q.1]? = some b := by
    have hbb' := hbb
    rw [List.getElem?_drop, hBi _ (by omega)] at hbb'
    rw [show t.pos + q.1 = t.pos - 1 + q.1 + 1 by omega]; exact hbb'
  have hb256 : b < 256 := hbr b (List.mem_of_getElem? hbi)
  refine s_want rfl rfl h39 ?_
  refine s_val (v_move (v := S _) rfl) ?_
  refine s_want rfl rfl h39 ?_
  refine s_val (v_move (v := .int .i64 _) rfl) ?_
  refine s_want rfl rfl h39 ?_
  refine s_val (v_strIdx (by kernel_rfl) rfl rfl (by omega) hbi hb256) ?_
  refine s_want rfl rfl h39 ?_
  refine s_val (v_geq (k := .u8) rfl rfl) ?_
  refine s_val (v_pickT (v := .bool _) rfl h39 rfl) ?_
  refine s_val (v_move (v := .bool _) rfl) ?_
  refine s_splitR (s := 45) rfl (fun h45 => ?_) (fun h45 => ?_)
  · refine s_pass rfl rfl h45 ?_
    refine s_pass rfl rfl h45 ?_
    refine s_val (v_pickF (v := .bool _) rfl h45 rfl) ?_
    refine s_nil ?_
    refine c_condFh rfl rfl rfl ?_
    refine c_exit ?_
    refine n_exit ?_
    refine n_exit ?_
    refine n_bhere ?_
    refine n_then ?_
    refine c_seq ?_
    refine r_seq (by kernel_rfl) ?_
    refine s_val (v_move (v := .int .i64 _) rfl) ?_
    refine s_val (v_move (v := .int .i64 _) rfl) ?_
    refine s_val (v_sub rfl rfl (by omega)) ?_
    refine s_val (v_geq (k := .i64) rfl rfl) ?_
    refine s_val (v_move (v := .bool _) rfl) ?_
    refine s_want rfl rfl (decide_eq_false (by have := of_decide_eq_true h39; omega)) ?_
    refine s_val (v_move (v := S _) rfl) ?_
    refine s_want rfl rfl (decide_eq_false (by have := of_decide_eq_true h39; omega)) ?_
    refine s_val (v_move (v := .int .i64 _) rfl) ?_
    refine s_want rfl rfl (decide_eq_false (by have := of_decide_eq_true h39; omega)) ?_
    refine s_val (v_strIdx (by kernel_rfl) rfl rfl (by omega) hbi hb256) ?_
    refine s_want rfl rfl (decide_eq_false (by have := of_decide_eq_true h39; omega)) ?_
    refine s_val (v_geq (k := .u8) rfl rfl) ?_
    refine s_val (v_pickF (v := .bool _) rfl (decide_eq_false (by have := of_decide_eq_true h39; omega)) rfl) ?_
    refine s_nil ?_
    refine c_condFh rfl rfl h45 ?_
    refine c_skip ?_
    refine n_then ?_
    have hmf := mul_fits (a := (b : Int)) (p := 128 ^ q.1) ⟨by omega, by omega⟩ hpw.1
    have hlast := (hd.last hbb (by have := of_decide_eq_false h45; omega)).2
    have h77 : (128 : Nat) ^ 7 = 562949953421312 := by decide
    refine r_seq (by kernel_rfl) ?_
    refine s_val (v_move (v := .int .i64 _) rfl) ?_
    refine s_val (v_move (v := S _) rfl) ?_
    refine s_val (v_move (v := .int .i64 _) rfl) ?_
    refine s_val (v_strIdx (by kernel_rfl) rfl rfl (by omega) hbi hb256) ?_
    refine s_val (v_ofU8 (by kernel_rfl) rfl ⟨by omega, by omega⟩) ?_
    refine s_val (v_move (v := .int .i64 _) rfl) ?_
    refine s_val (v_mul rfl rfl (by omega)) ?_
    refine s_val (v_add rfl rfl (by omega)) ?_
    refine s_val (v_assign (v := .int .i64 _) rfl) ?_
    refine s_nil ?_
    rw [last_cast b q.2 q.1]
    refine r_seq (by kernel_rfl) ?_
    refine s_val (v_move (v := .int .i64 _) rfl) ?_
    refine s_val (v_add rfl rfl (by omega)) ?_
    refine s_val (v_assign (v := .int .i64 _) rfl) ?_
    refine s_nil ?_
    refine r_seq (by kernel_rfl) ?_
    refine s_val (v_move (v := .int .i64 _) rfl) ?_
    refine s_val (v_move (v := .int .i64 _) rfl) ?_
    refine s_val (v_quo (c := (((q.2 + b * 128 ^ q.1) / 2 : Nat) : Int)) rfl rfl (by decide) (by rw [show (((q.2 + b * 128 ^ q.1) : Nat) : Int).tdiv 2 = (((q.2 + b * 128 ^ q.1) / 2 : Nat) : Int) from tdiv_nat (q.2 + b * 128 ^ q.1) 2]; exact wr_in (by omega) (by omega))) ?_
    refine s_val (v_idxA (len := 5) (size := 1) (k := .i64) (by kernel_rfl) rfl rfl ⟨by omega, by omega⟩) ?_
    refine s_store1 (v := .int .i64 _) (by kernel_rfl) rfl rfl .here ⟨by simp only [Array.size_setIfInBounds, vrow_size]; omega, rfl⟩ rfl ?_
    refine s_nil ?_
    refine r_seq (by kernel_rfl) ?_
    refine s_val (v_move (v := .int .i64 _) rfl) ?_
    refine s_val (v_rem (c := (((q.2 + b * 128 ^ q.1) % 2 : Nat) : Int)) rfl rfl (by decide) (tmod_nat _ 2)) ?_
    refine s_val (v_eql (k := .i64) rfl rfl) ?_
    refine s_nil ?_
    refine c_condR rfl rfl (fun h88 => ?_) (fun h88 => ?_)
    · refine c_skip ?_
      refine n_bnormal ?_
      refine n_then ?_
      refine r_list (by kernel_rfl) ?_
      refine s_val (v_move (v := .int .i64 _) rfl) ?_
      refine s_val (v_add rfl rfl (by omega)) ?_
      refine s_val (v_assign (v := .int .i64 _) rfl) ?_
      refine s_end ?_
      refine n_round (s := t) ⟨t.k + 1, t.us ++ [(q.2 + b * 128 ^ q.1)], t.pos + q.1 + 1⟩ ⟨_, hpg.next hBl hk5 hd hbb (by have := of_decide_eq_false h45; omega), live8 rfl rfl rfl rfl rfl rfl (congrArg I (by push_cast; rfl)) (congrArg I (by push_cast; rfl))⟩ (fun _ hw => by rw [← vrow_set hpg.ul hk5, ← zag_even (of_decide_eq_false h88)]; exact hw) (by dsimp only; omega)
    refine r_list (by kernel_rfl) ?_
    refine s_val (v_move (v := .int .i64 _) rfl) ?_
    refine s_val (v_move (v := .int .i64 _) rfl) ?_
    refine s_val (v_neg rfl (by omega)) ?_
    refine s_val (v_quo (c := -(((q.2 + b * 128 ^ q.1) / 2 : Nat) : Int)) rfl rfl (by decide) (by rw [neg_half]; exact wr_in (by omega) (by omega))) ?_
    refine s_val (v_sub rfl rfl (by omega)) ?_
    refine s_val (v_idxA (len := 5) (size := 1) (k := .i64) (by kernel_rfl) rfl rfl ⟨by omega, by omega⟩) ?_
    refine s_store1 (v := .int .i64 _) (by kernel_rfl) rfl rfl .here ⟨by simp only [Array.size_setIfInBounds, vrow_size]; omega, rfl⟩ rfl ?_
    refine s_end ?_
    refine n_bnormal ?_
    refine n_then ?_
    refine r_list (by kernel_rfl) ?_
    refine s_val (v_move (v := .int .i64 _) rfl) ?_
    refine s_val (v_add rfl rfl (by omega)) ?_
    refine s_val (v_assign (v := .int .i64 _) rfl) ?_
    refine s_end ?_
    refine n_round (s := t) ⟨t.k + 1, t.us ++ [(q.2 + b * 128 ^ q.1)], t.pos + q.1 + 1⟩ ⟨_, hpg.next hBl hk5 hd hbb (by have := of_decide_eq_false h45; omega), live8 rfl rfl rfl rfl rfl rfl (congrArg I (by push_cast; rfl)) (congrArg I (by push_cast; rfl))⟩ (fun _ hw => by rw [← vrow_set2 (x := (((q.2 + b * 128 ^ q.1) / 2 : Nat) : Int)) hpg.ul hk5, ← zag_odd' (of_decide_eq_true h88)]; exact hw) (by dsimp only; omega)
  refine s_want rfl rfl h45 ?_
  refine s_val (v_move (v := .int .i64 _) rfl) ?_
  refine s_want rfl rfl h45 ?_
  refine s_val (v_lss (k := .i64) rfl rfl) ?_
  refine s_val (v_pickT (v := .bool _) rfl h45 rfl) ?_
  refine s_nil ?_
  refine c_cond rfl rfl (fun h48 => ?_) (fun h48 => ?_)
  · have hhi := of_decide_eq_true h45
    have hj5 := (pow_lt40 hj6).1 (of_decide_eq_true h48)
    have hmf := mul_fits (a := (b : Int) - 128) (p := 128 ^ q.1) ⟨by omega, by omega⟩ hpw.1
    refine c_skip ?_
    refine n_then ?_
    refine c_block ?_
    refine r_seq (by kernel_rfl) ?_
    refine s_val (v_move (v := .int .i64 _) rfl) ?_
    refine s_val (v_move (v := S _) rfl) ?_
    refine s_val (v_move (v := .int .i64 _) rfl) ?_
    refine s_val (v_strIdx (by kernel_rfl) rfl rfl (by omega) hbi hb256) ?_
    refine s_val (v_u8sub rfl rfl ⟨by omega, by omega⟩) ?_
    refine s_val (v_ofU8 (by kernel_rfl) rfl ⟨by omega, by omega⟩) ?_
    refine s_val (v_move (v := .int .i64 _) rfl) ?_
    refine s_val (v_mul rfl rfl (by omega)) ?_
    refine s_val (v_add rfl rfl (by omega)) ?_
    refine s_val (v_assign (v := .int .i64 _) rfl) ?_
    refine s_nil ?_
    refine r_seq (by kernel_rfl) ?_
    refine s_val (v_move (v := .int .i64 _) rfl) ?_
    refine s_val (v_mul rfl rfl (by omega)) ?_
    refine s_val (v_assign (v := .int .i64 _) rfl) ?_
    refine s_nil ?_
    refine r_list (by kernel_rfl) ?_
    refine s_val (v_move (v := .int .i64 _) rfl) ?_
    refine s_val (v_add rfl rfl (by omega)) ?_
    refine s_val (v_assign (v := .int .i64 _) rfl) ?_
    refine s_end ?_
    refine n_bnormal ?_
    refine n_round (s := q) (q.1 + 1, q.2 + (b - 128) * 128 ^ q.1) ⟨_, hd.step hbb (by omega) hb256 hj5, live10 rfl rfl rfl rfl rfl rfl (congrArg I (by push_cast; omega)) rfl (congrArg I (dig_cast (by omega))) (congrArg I (by rw [Nat.pow_succ]; push_cast; rfl))⟩ (fun _ hw => hw) (by dsimp only; omega)
  refine c_exit ?_
  refine n_exit ?_
  refine n_exit ?_
  refine n_bhere ?_
  refine n_then ?_
  refine c_seq ?_
  refine r_seq (by kernel_rfl) ?_
  refine s_val (v_move (v := .int .i64 _) rfl) ?_
  refine s_val (v_move (v := .int .i64 _) rfl) ?_
  refine s_val (v_sub rfl rfl (by omega)) ?_
  refine s_val (v_geq (k := .i64) rfl rfl) ?_
  refine s_val (v_move (v := .bool _) rfl) ?_
  refine s_want rfl rfl (decide_eq_false (by have := of_decide_eq_true h39; omega)) ?_
  refine s_val (v_move (v := S _) rfl) ?_
  refine s_want rfl rfl (decide_eq_false (by have := of_decide_eq_true h39; omega)) ?_
  refine s_val (v_move (v := .int .i64 _) rfl) ?_
  refine s_want rfl rfl (decide_eq_false (by have := of_decide_eq_true h39; omega)) ?_
  refine s_val (v_strIdx (by kernel_rfl) rfl rfl (by omega) hbi hb256) ?_
  refine s_want rfl rfl (decide_eq_false (by have := of_decide_eq_true h39; omega)) ?_
  refine s_val (v_geq (k := .u8) rfl rfl) ?_
  refine s_val (v_pickF (v := .bool _) rfl (decide_eq_false (by have := of_decide_eq_true h39; omega)) rfl) ?_
  refine s_nil ?_
  refine c_condTh rfl rfl h45 ?_
  refine c_exit ?_
  refine n_exit ?_
  refine n_bpast rfl ?_
  refine n_exit ?_
  refine n_exit ?_
  refine n_bhere ?_
  refine n_then ?_
  have hnone := hd.high hbb (by have := of_decide_eq_true h45; omega) (fun h => absurd ((pow_lt40 hj6).2 h) (of_decide_eq_false h48))
  refine r_seq (by kernel_rfl) ?_
  refine s_val (v_idxA (len := 5) (size := 1) (k := .i64) (by kernel_rfl) rfl rfl (by decide)) ?_
  refine s_val (v_load1 (v := I (vnum t.us 0)) (by kernel_rfl) rfl .here (vrow_at t.us 0 (by decide))) ?_
  refine s_val (v_idxA (len := 5) (size := 1) (k := .i64) (by kernel_rfl) rfl rfl (by decide)) ?_
  refine s_val (v_load1 (v := I (vnum t.us 1)) (by kernel_rfl) rfl .here (vrow_at t.us 1 (by decide))) ?_
  refine s_val (v_idxA (len := 5) (size := 1) (k := .i64) (by kernel_rfl) rfl rfl (by decide)) ?_
  refine s_val (v_load1 (v := I (vnum t.us 2)) (by kernel_rfl) rfl .here (vrow_at t.us 2 (by decide))) ?_
  refine s_val (v_idxA (len := 5) (size := 1) (k := .i64) (by kernel_rfl) rfl rfl (by decide)) ?_
  refine s_val (v_load1 (v := I (vnum t.us 3)) (by kernel_rfl) rfl .here (vrow_at t.us 3 (by decide))) ?_
  refine s_val (v_idxA (len := 5) (size := 1) (k := .i64) (by kernel_rfl) rfl rfl (by decide)) ?_
  refine s_val (v_load1 (v := I (vnum t.us 4)) (by kernel_rfl) rfl .here (vrow_at t.us 4 (by decide))) ?_
  refine s_val (v_build (vs := [(0, .int .i64 _), (1, .int .i64 _), (2, .int .i64 _), (3, .int .i64 _), (4, .int .i64 _)]) (cs := (act5 t.us).cells) rfl (by kernel_rfl)) ?_
  refine s_alloc (z := zeroOf Try.prog 54) (by kernel_rfl) (fun b13 => ?_)
  refine s_storeA (m := 5) (by kernel_rfl) rfl rfl .here (by kernel_rfl) rfl (ActS.all1 _) ?_
  refine s_nil ?_
  refine c_seq ?_
  refine r_seq (by kernel_rfl) ?_
  refine s_val (v_loadA (m := 5) (by kernel_rfl) rfl .here rfl) ?_
  refine s_call (by kernel_rfl) (fun w hw => gr_FrameOf (act5 t.us) w) ?_
  refine s_val (v_move (v := .tuple _) rfl) ?_
  refine s_val (v_extract rfl rfl) ?_
  refine s_val (v_extract rfl rfl) ?_
  refine s_val (v_assign (v := S _) rfl) ?_
  refine s_val (v_assign (v := .int .i64 _) rfl) ?_
  refine s_nil ?_
  refine r_seq (by kernel_rfl) ?_
  refine s_val (v_move (v := .int .i64 _) rfl) ?_
  refine s_val (v_lss (k := .i64) rfl rfl) ?_
  refine s_val (v_move (v := .bool _) rfl) ?_
  refine s_pass rfl rfl (decide_eq_true (by omega)) ?_
  refine s_pass rfl rfl (decide_eq_true (by omega)) ?_
  refine s_val (v_pickT (v := .bool _) rfl (decide_eq_true (by omega)) rfl) ?_
  refine s_val (v_move (v := .bool _) rfl) ?_
  refine s_pass (g := true) rfl rfl rfl ?_
  refine s_pass (g := true) rfl rfl rfl ?_
  refine s_pass (g := true) rfl rfl rfl ?_
  refine s_pass (g := true) rfl rfl rfl ?_
  refine s_pass (g := true) rfl rfl rfl ?_
  refine s_val (v_pickT (v := .bool _) rfl rfl rfl) ?_
  refine s_nil ?_
  refine c_condTh rfl rfl rfl ?_
  refine c_exit ?_
  refine n_exit ?_
  refine n_bpast rfl ?_
  refine n_exit ?_
  refine n_bhere ?_
  refine n_then ?_
  refine r_seq (by kernel_rfl) ?_
  refine s_val (v_move (v := _) rfl) ?_
  refine s_val (v_move (v := .int .i64 _) rfl) ?_
  refine s_val (v_assign (v := _) rfl) ?_
  refine s_val (v_assign (v := .int .i64 _) rfl) ?_
  refine s_nil ?_
  refine c_ret ?_
  refine n_doneTF rfl (by decide) (by decide) (fun w hw => ?_)
  exact ho.done (by rw [hr]; exact hpg.broken hk5 hnone) (own_fresh (hw.sub (.cons _ (.cons _ (List.Sublist.refl _)))))

end Go.Proofs.Ytbajdhahmmfhcaa
/- Lists of acts that are looked at; the little book of 'books'; where a book is cut. No condition. -/
namespace Go.Proofs.Ytbajdhahmmfhcaa
open Go.RowKit
set_option linter.unusedSimpArgs false
set_option linter.unusedVariables false

def ActsAt (F : Addr → Value → Prop) (a : Option Addr) (xs : List ActS) : Prop := xs = [] ∨ ∃ b o, a = some ⟨b, o, none⟩ ∧ ∀ (j : Nat) (x : ActS), xs[j]? = some x → ∀ (k : Nat) (v : Value), x.cells[k]? = some v → F ⟨b, o + j * 5 + k, none⟩ v
theorem ActsIn.at {F : Addr → Value → Prop} {v : Value} {xs : List ActS} (h : ActsIn F v xs) : ∃ a c, v = .slice a xs.length c ∧ ActsAt F a xs := by
  obtain ⟨a, c, h1, _, h3⟩ := h
  exact ⟨a, c, h1, h3⟩
theorem ActsAt.mono {F F' : Addr → Value → Prop} {a : Option Addr} {xs : List ActS} (h : ActsAt F a xs) (hm : More F F') : ActsAt F' a xs := by
  rcases h with h | ⟨b, o, h1, h2⟩
  · exact .inl h
  · exact .inr ⟨b, o, h1, fun j x hj k v hv => hm _ _ (h2 j x hj k v hv)⟩
theorem ActsAt.at {w0 w : World} {F : Addr → Value → Prop} {L : List (Nat × Obj)} {a : Option Addr} {xs : List ActS} (h : ActsAt F a xs) (hw : Has w0 F L w) : ActsAt (At w) a xs := h.mono hw.at
theorem ActsAt.get {F : Addr → Value → Prop} {a : Option Addr} {xs : List ActS} (h : ActsAt F a xs) {j : Nat} (hj : j < xs.length) : ∃ b o x, a = some ⟨b, o, none⟩ ∧ xs[j]? = some x ∧ ∀ (k : Nat) (v : Value), x.cells[k]? = some v → F ⟨b, o + j * 5 + k, none⟩ v := by
  rcases h with rfl | ⟨b, o, h1, h2⟩
  · simp at hj
  · exact ⟨b, o, xs[j], h1, by simp [hj], h2 j _ (by simp [hj])⟩
def ActS.list (x : ActS) : List Int := [x.kind, x.a, x.b, x.c, x.n]
theorem ActS.cells_list (x : ActS) : x.cells = ((ActS.list x).map I).toArray := rfl
theorem ActS.list_inj {x y : ActS} (h : x.list = y.list) : x = y := by
  cases x; cases y
  simp [ActS.list] at h
  simp [h]
theorem acts_step {xs ys : List ActS} {j : Nat} {x y : ActS} (h : xs.take j = ys.take j) (hx : xs[j]? = some x) (hy : ys[j]? = some y) (he : x.list = y.list) : xs.take (j + 1) = ys.take (j + 1) := by
  rw [List.take_add_one, List.take_add_one, h, hx, hy, ActS.list_inj he]
theorem acts_all {xs ys : List ActS} {j : Nat} (hl : (xs.length : Int) = ys.length) (h : xs.take j = ys.take j) (hj : ¬ (j : Int) < xs.length) : xs = ys := by
  rw [List.take_of_length_le (by omega), List.take_of_length_le (by omega)] at h; exact h
theorem acts_bad {xs ys : List ActS} {j : Nat} {x y : ActS} (hx : xs[j]? = some x) (hy : ys[j]? = some y) (he : ¬ x.list = y.list) : ¬ xs = ys := by
  rintro rfl; rw [hx] at hy; simp at hy; exact he (by rw [hy])
theorem acts_len {xs ys : List ActS} (hl : ¬ (xs.length : Int) = ys.length) : ¬ xs = ys := by rintro rfl; exact hl rfl
/-! the book of 'books' -/
def bAct : ActS := ⟨6, 1, 0, 0, 100⟩
theorem bNoted : noted bAct = true := by decide
def bText : List Nat := frameOf bAct ++ frameOf bAct ++ [120]
theorem bFrame : fText bAct = frameOf bAct := by simp [fText, bNoted]
theorem bLen : (frameOf bAct).length = 9 := by kernel_rfl
theorem bRead : readM bText = [bAct, bAct] := by
  have e : bText = bytesOf [bAct, bAct] ++ [120] := by simp [bText, bytesOf]
  rw [e]
  refine readM_all _ (fun x hx => ?_) _ (fun y hy => ?_)
  · simp at hx; subst hx; exact bNoted
  · have h1 := hy.2.length_le
    have h2 := frame_len y
    simp at h1; omega
theorem bBytes : ((bytesOf (readM bText)).length : Int) = 2 * ((frameOf bAct).length : Int) := by
  rw [bRead]
  have : (bytesOf [bAct, bAct]).length = 2 * (frameOf bAct).length := by simp [bytesOf]; omega
  omega
theorem bByt : Byt bText := Byt.append (Byt.append (frame_byte bNoted) (frame_byte bNoted)) (byt_one (by decide))
/-! a book that is cut -/
theorem bytes_take {xs : List ActS} {k : Nat} {x : ActS} (h : xs[k]? = some x) : bytesOf (xs.take (k + 1)) = bytesOf (xs.take k) ++ frameOf x := by
  rw [List.take_add_one, h]; simp [bytesOf]
theorem bytes_mono (xs : List ActS) {j k : Nat} (h : j ≤ k) : (bytesOf (xs.take j)).length ≤ (bytesOf (xs.take k)).length := by
  have e : xs.take k = xs.take j ++ (xs.take k).drop j := by
    have := List.take_append_drop j (xs.take k)
    rw [List.take_take, Nat.min_eq_left h] at this
    exact this.symm
  rw [e]
  unfold bytesOf
  rw [List.flatMap_append, List.length_append]
  exact Nat.le_add_right _ _
theorem wholes_spec : ∀ (xs : List ActS) (m : Nat), ∃ q, wholes xs m = xs.take q ∧ q ≤ xs.length ∧ (bytesOf (xs.take q)).length ≤ m ∧ (q < xs.length → m < (bytesOf (xs.take (q + 1))).length)
  | [], m => ⟨0, by simp [wholes], by simp, by simp [bytesOf], by simp⟩
  | x :: r, m => by
    by_cases h : (frameOf x).length ≤ m
    · obtain ⟨q, h1, h2, h3, h4⟩ := wholes_spec r (m - (frameOf x).length)
      refine ⟨q + 1, by simp [wholes, h, h1], by simp only [List.length_cons]; omega, ?_, fun hq => ?_⟩
      · simp only [List.take_succ_cons, bytesOf, List.flatMap_cons, List.length_append] at h3 ⊢
        omega
      · simp only [List.length_cons] at hq
        have := h4 (by omega)
        simp only [List.take_succ_cons, bytesOf, List.flatMap_cons, List.length_append] at this ⊢
        omega
    · exact ⟨0, by simp [wholes, h], by simp, by simp [bytesOf], fun _ => by simp [bytesOf]; omega⟩
/-- how many frames are whole, as the law counts them: the last whose end is not behind the cut -/
def wantTo (xs : List ActS) (m : Nat) : Nat → Nat × Nat
  | 0 => (0, 0)
  | j + 1 => if (bytesOf (xs.take (j + 1))).length ≤ m then (j + 1, (bytesOf (xs.take (j + 1))).length) else wantTo xs m j
theorem want_spec {xs : List ActS} {m q : Nat} (h1 : (bytesOf (xs.take q)).length ≤ m) (h2 : q < xs.length → m < (bytesOf (xs.take (q + 1))).length) : ∀ j, j ≤ xs.length → wantTo xs m j = if j ≤ q then (j, (bytesOf (xs.take j)).length) else (q, (bytesOf (xs.take q)).length)
  | 0, _ => by simp [wantTo, bytesOf]
  | j + 1, hj => by
    have ih := want_spec h1 h2 j (by omega)
    unfold wantTo
    by_cases hq : j + 1 ≤ q
    · have := bytes_mono xs hq
      rw [if_pos (by omega), if_pos hq]
    · have h3 := h2 (by omega)
      have h4 := bytes_mono xs (show q + 1 ≤ j + 1 by omega)
      rw [if_neg (by omega), if_neg hq, ih]
      by_cases hj2 : j ≤ q
      · have : j = q := by omega
        subst this
        rw [if_pos (Nat.le_refl _)]
      · rw [if_neg hj2]
theorem want_all {xs : List ActS} {m : Nat} (h : ∀ x ∈ xs, noted x = true) : wantTo xs m xs.length = ((readM ((bytesOf xs).take m)).length, (bytesOf (readM ((bytesOf xs).take m))).length) := by
  obtain ⟨q, e, hq, h1, h2⟩ := wholes_spec xs m
  rw [readM_take xs h, e, want_spec h1 h2 xs.length (Nat.le_refl _)]
  by_cases hl : xs.length ≤ q
  · have : q = xs.length := by omega
    subst this
    rw [if_pos (Nat.le_refl _)]; simp
  · rw [if_neg hl, List.length_take]
    congr 1
    omega
theorem read_prefix {xs : List ActS} {m : Nat} (h : ∀ x ∈ xs, noted x = true) : ∃ q, readM ((bytesOf xs).take m) = xs.take q := by
  obtain ⟨q, e, _⟩ := wholes_spec xs m
  exact ⟨q, by rw [readM_take xs h, e]⟩
def endsTo (xs : List ActS) (k : Nat) : List Int := (List.range k).map fun i => ((bytesOf (xs.take (i + 1))).length : Int)
theorem ends_step (xs : List ActS) (k : Nat) : endsTo xs (k + 1) = endsTo xs k ++ [((bytesOf (xs.take (k + 1))).length : Int)] := by simp [endsTo, List.range_succ]
theorem ends_len (xs : List ActS) (k : Nat) : (endsTo xs k).length = k := by simp [endsTo]
theorem ends_get {xs : List ActS} {k j : Nat} (h : j < k) : (endsTo xs k)[j]? = some ((bytesOf (xs.take (j + 1))).length : Int) := by simp [endsTo, h]
theorem bytes_bound {xs : List ActS} (h : ∀ x ∈ xs, noted x = true) : (bytesOf xs).length ≤ 28 * xs.length := by
  induction xs with
  | nil => simp [bytesOf]
  | cons x r ih =>
    have h1 := frame_len x
    have h2 := body_len (h x (by simp))
    have h3 := ih (fun y hy => h y (by simp [hy]))
    simp only [bytesOf, List.flatMap_cons, List.length_append, List.length_cons] at h3 ⊢
    omega
theorem bytes_byt {xs : List ActS} (h : ∀ x ∈ xs, noted x = true) : Byt (bytesOf xs) := fun b hb => by
  obtain ⟨x, hx, hbx⟩ := List.mem_flatMap.1 hb
  exact frame_byte (h x hx) b hbx
theorem cut_range (cut : Int) (L : Nat) : ∃ m : Nat, ((cut.tmod ((L : Int) + 1) + L + 1).tmod ((L : Int) + 1)) = (m : Int) ∧ m ≤ L := by
  have h1 : -((L : Int) + 1) < cut.tmod ((L : Int) + 1) ∧ cut.tmod ((L : Int) + 1) < (L : Int) + 1 := by
    constructor
    · have := Int.lt_tmod_of_pos cut (show (0 : Int) < (L : Int) + 1 by omega); omega
    · exact Int.tmod_lt_of_pos _ (by omega)
  have h2 : 0 ≤ cut.tmod ((L : Int) + 1) + L + 1 := by omega
  rw [Int.tmod_eq_emod_of_nonneg h2]
  have h3 := Int.emod_nonneg (cut.tmod ((L : Int) + 1) + L + 1) (show ((L : Int) + 1) ≠ 0 by omega)
  have h4 := Int.emod_lt_of_pos (cut.tmod ((L : Int) + 1) + L + 1) (show (0 : Int) < (L : Int) + 1 by omega)
  exact ⟨((cut.tmod ((L : Int) + 1) + L + 1) % ((L : Int) + 1)).toNat, by omega, by omega⟩
theorem cut_mid (cut : Int) (L : Nat) : -((L : Int) + 1) < cut.tmod ((L : Int) + 1) ∧ cut.tmod ((L : Int) + 1) < (L : Int) + 1 := by
  constructor
  · have := Int.lt_tmod_of_pos cut (show (0 : Int) < (L : Int) + 1 by omega); omega
  · exact Int.tmod_lt_of_pos _ (by omega)
theorem bytes_low : ∀ (xs : List ActS), 3 * xs.length ≤ (bytesOf xs).length
  | [] => by simp [bytesOf]
  | x :: r => by
    have h1 := frame_len x
    have h2 := bytes_low r
    simp only [bytesOf, List.flatMap_cons, List.length_append, List.length_cons] at h2 ⊢
    omega
theorem reads_len (l : List Nat) : 3 * (readM l).length ≤ (bytesOf (readM l)).length := bytes_low _
structure BB where
  k : Nat
  v : Value
  E : List (Nat × Obj)
end Go.Proofs.Ytbajdhahmmfhcaa
/- Calls that change blocks of their caller's own, whoever the caller is; lists of bytes that grow and become a text; a shift; functions with several results; numbers of at most five digits, read one behind the other. No condition. -/
namespace Go.Proofs.Ytbajdhahmmfhcaa
open Go.RowKit
set_option linter.unusedSimpArgs false
set_option linter.unusedVariables false

/-- a call that may change the blocks B; all else stays -/
def GivesW (P : Program) (k : FuncId) (args : List Value) (F : Addr → Value → Prop) (B : List (Nat × Obj)) (R : (Addr → Value → Prop) → Value → List (Nat × Obj) → Prop) : Prop :=
  ∀ (w0 : World) (K : List (Nat × Obj)) (w : World), Has w0 F (B ++ K) w → Calls P k args.toArray w fun e w' => ∃ v B' F', e = .returned v ∧ More F F' ∧ Has w0 F' (B' ++ K) w' ∧ R F' v B'
def retW (w0 : World) (F : Addr → Value → Prop) (K : List (Nat × Obj)) (R : (Addr → Value → Prop) → Value → List (Nat × Obj) → Prop) : Value → World → Prop :=
  fun v w' => ∃ B' F', More F F' ∧ Has w0 F' (B' ++ K) w' ∧ R F' v B'
theorem givesW_of {P : Program} {k : FuncId} {fn : Func} {c : Code} {m : Nat} {args : List Value} {B : List (Nat × Obj)} {F : Addr → Value → Prop} {R : (Addr → Value → Prop) → Value → List (Nat × Obj) → Prop}
    (hf : P.funcs[k]? = some fn) (hb : fn.body = some c) (hn : fn.ntmps = m) (hl : args.length ≤ m)
    (h : ∀ w0 K, cC P m c (retQ P fn m (retW w0 F K R)) (argF args) (Has w0 F (B ++ K))) : GivesW P k args F B R := fun w0 K w hw => by
  refine calls_of_wp hf hb ?_
  rw [hn, Fa_args m args hl]
  refine wp_mono (h w0 K w hw) ?_
  rintro e a w' ⟨f, rfl, hr⟩
  cases e <;> simp only [retQ] at hr
  · obtain ⟨v, h1, B', F', h2, h3, h4⟩ := hr; exact ⟨rfl, v, h1, v, B', F', rfl, h2, h3, h4⟩
  · obtain ⟨v, h1, B', F', h2, h3, h4⟩ := hr; exact ⟨rfl, v, h1, v, B', F', rfl, h2, h3, h4⟩
section
variable {P : Program} {ops : Array Oper} {K : (Nat → Value) → World → Prop} {rest : List Oper} {f : Nat → Value} {d : Nat} {ty : TypeId} {pos : String} {af : Array Edge} {w0 : World} {F : Addr → Value → Prop} {B E L : List (Nat × Obj)}
theorem s_weak {C C' : World → Prop} (hc : ∀ w, C w → C' w) (h : sC P ops K rest f C') : sC P ops K rest f C := fun w hw => h w (hc w hw)
theorem s_callW {k : FuncId} {xs : List Operand} {ats : Array TypeId} {R : (Addr → Value → Prop) → Value → List (Nat × Obj) → Prop} (hk : hasBody P k = true) (hg : GivesW P k (xs.map (ev f)) F B R)
    (kk : ∀ (F' : Addr → Value → Prop) (v : Value) (B' : List (Nat × Obj)), More F F' → R F' v B' → sC P ops K rest (upd f d v) (Has w0 F' (B' ++ L))) :
    sC P ops K (⟨some d, .call ⟨.value (.func k), xs.toArray, ats⟩, ty, pos, af, none⟩ :: rest) f (Has w0 F (B ++ L)) := by
  intro w hw
  unfold sw
  rw [if_pos wanted_free]
  unfold opk
  rw [run_call hk w]
  exact (hg w0 L w hw).mono fun e w' ⟨v, B', F', he, hm, h', hr⟩ => ⟨_, he, kk F' v B' hm hr w' h'⟩
/-- rows that stand in memory that is known are set behind a list of the call's own -/
theorem s_pushM {T e m by_ n mm c : Nat} {ats : Array TypeId} {x y : Operand} {v : Value} {xs news : List Value} {b o : Nat} (hT : rowB P T e m by_ = true) (hm : Nat.ble 1 m = true) (hbb : Nat.ble 1 by_ = true) (hat : ats = #[T, T])
    (hx : ev f x = v) (hy : ev f y = .slice (some ⟨b, o, none⟩) mm c) (hE : ListE e m v n xs E) (hl : news.length = mm * m) (hnews : ∀ w, Has w0 F (E ++ L) w → ∀ j u, news[j]? = some u → w.cell? ⟨b, o + j, none⟩ = some u) (h1 : ∀ u ∈ news, u.oneCell' = true) (hpos : 0 < mm) (hbytes : (n + mm) * by_ ≤ 140737488355328)
    (kk : ∀ v' E', ListE e m v' (n + mm) (xs ++ news) E' → sC P ops K rest (upd f d v') (Has w0 F (E' ++ L))) :
    sC P ops K (⟨some d, .call ⟨.builtin .append, #[x, y], ats⟩, ty, pos, af, none⟩ :: rest) f (Has w0 F (E ++ L)) := by
  intro w hw
  subst hat
  unfold sw
  rw [if_pos wanted_free]
  unfold opk
  obtain ⟨v', E', w', hr, hE', hw'⟩ := run_appendE (P := P) (w0 := w0) (F := F) (L := L) (c := c) (ty := ty) (b := b) (o := o) (mm := mm) (news := news) hT (Nat.le_of_ble_eq_true hm) hE hw hl (hnews w hw) h1 hpos hbytes (Nat.le_of_ble_eq_true hbb)
  have : (execOp (ev f) ⟨some d, .call ⟨.builtin .append, #[x, y], #[T, T]⟩, ty, pos, af, none⟩).run P w = .ok (.value v') w' := by
    simp [execOp, resolve, invoke, builtin, hx, hy, hr]
  rw [this]
  exact kk v' E' hE' w' hw'
/-- rows just built are set behind the list, and their own block is forgotten -/
theorem s_pushN {T e m by_ n mm : Nat} {ats : Array TypeId} {x y : Operand} {v : Value} {xs : List Value} {b : Nat} {cs : Array Value} (hT : rowB P T e m by_ = true) (hm : Nat.ble 1 m = true) (hbb : Nat.ble 1 by_ = true) (hat : ats = #[T, T])
    (hx : ev f x = v) (hy : ev f y = .slice (some ⟨b, 0, none⟩) mm mm) (hE : ListE e m v n xs E) (hs : cs.size = mm * m) (h1 : cs.all (·.oneCell') = true) (hpos : 0 < mm) (hbytes : (n + mm) * by_ ≤ 140737488355328)
    (kk : ∀ v' E', ListE e m v' (n + mm) (xs ++ cs.toList) E' → sC P ops K rest (upd f d v') (Has w0 F (E' ++ L))) :
    sC P ops K (⟨some d, .call ⟨.builtin .append, #[x, y], ats⟩, ty, pos, af, none⟩ :: rest) f (Has w0 F ((b, .cells cs e) :: (E ++ L))) := by
  intro w hw
  subst hat
  unfold sw
  rw [if_pos wanted_free]
  unfold opk
  obtain ⟨v', E', w', hr, hE', hw'⟩ := run_appendE (P := P) (w0 := w0) (F := F) (L := L) (c := mm) (ty := ty) (b := b) (o := 0) (mm := mm) (news := cs.toList) hT (Nat.le_of_ble_eq_true hm) hE hw.tail (by simp [hs]) (fun j u hj => by
    rw [Nat.zero_add, cell_has hw .here]; simpa using hj) (fun u hu => by rw [Array.all_eq_true_iff_forall_mem] at h1; exact h1 u (by simpa using hu)) hpos hbytes (Nat.le_of_ble_eq_true hbb)
  have : (execOp (ev f) ⟨some d, .call ⟨.builtin .append, #[x, y], #[T, T]⟩, ty, pos, af, none⟩).run P w = .ok (.value v') w' := by
    simp [execOp, resolve, invoke, builtin, hx, hy, hr]
  rw [this]
  exact kk v' E' hE' w' hw'
end
/-! lists of bytes -/
def u8s (l : List Nat) : List Value := l.map fun n : Nat => U8 (n : Int)
theorem u8s_len (l : List Nat) : (u8s l).length = l.length := by simp [u8s]
theorem u8s_append (l m : List Nat) : u8s (l ++ m) = u8s l ++ u8s m := by simp [u8s]
theorem u8s_one (l : List Nat) : ∀ u ∈ u8s l, u.oneCell' = true := fun u hu => by
  obtain ⟨q, _, rfl⟩ := List.mem_map.1 hu
  rfl
def BytesAt (F : Addr → Value → Prop) (a : Option Addr) (l : List Nat) : Prop := l = [] ∨ ∃ b o, a = some ⟨b, o, none⟩ ∧ ∀ (j m : Nat), l[j]? = some m → F ⟨b, o + j, none⟩ (U8 m)
theorem BytesAt.get {F : Addr → Value → Prop} {a : Option Addr} {l : List Nat} (h : BytesAt F a l) {j : Nat} (hj : j < l.length) : ∃ b o m, a = some ⟨b, o, none⟩ ∧ l[j]? = some m ∧ F ⟨b, o + j, none⟩ (U8 m) := by
  rcases h with rfl | ⟨b, o, h1, h2⟩
  · simp at hj
  · exact ⟨b, o, l[j], h1, by simp [hj], h2 j _ (by simp [hj])⟩
abbrev Bytes (e : Nat) (v : Value) (l : List Nat) (E : List (Nat × Obj)) : Prop := ListE e 1 v l.length (u8s l) E
theorem bytes_nil (e : Nat) : Bytes e (.slice none 0 0) [] [] := listE_nil e 1
theorem Bytes.slice {e : Nat} {v : Value} {l : List Nat} {E : List (Nat × Obj)} (h : Bytes e v l E) : ∃ a c, v = .slice a l.length c ∧ ∀ {w0 w : World} {F : Addr → Value → Prop} {L : List (Nat × Obj)}, Has w0 F L w → (∀ p ∈ E, p ∈ L) → BytesAt (At w) a l := by
  rcases h.2 with ⟨rfl, h2, rfl⟩ | ⟨g, cap, cur, rfl, rfl, h3, h4, h5, h6⟩
  · exact ⟨none, 0, by rw [h2], fun _ _ => .inl (List.eq_nil_of_length_eq_zero h2)⟩
  · refine ⟨_, _, rfl, fun {w0 w F L} hw hs => .inr ⟨g, 0, rfl, fun j m hj => ?_⟩⟩
    show w.cell? _ = _
    rw [Nat.zero_add, cell_of_row w g j cur e (0, 0) (hw.2.2.1 (g, .cells cur e (0, 0)) (hs _ (by simp))).2]
    have e1 : (u8s l)[j]? = some (U8 m) := by simp [u8s, hj]
    rw [← h6, List.getElem?_take] at e1
    split at e1
    · simpa using e1
    · cases e1
theorem Bytes.block {e : Nat} {v : Value} {l : List Nat} {E : List (Nat × Obj)} (h : Bytes e v l E) (h0 : 0 < l.length) : ∃ g c cs, v = .slice (some ⟨g, 0, none⟩) l.length c ∧ E = [(g, .cells cs e (0, 0))] ∧ ∀ (j m : Nat), l[j]? = some m → cs[j]? = some (U8 m) := by
  rcases h.2 with ⟨rfl, h2, rfl⟩ | ⟨g, cap, cur, rfl, rfl, h3, h4, h5, h6⟩
  · omega
  · refine ⟨g, cap, cur, rfl, rfl, fun j m hj => ?_⟩
    have e1 : (u8s l)[j]? = some (U8 m) := by simp [u8s, hj]
    rw [← h6, List.getElem?_take] at e1
    split at e1
    · simpa using e1
    · cases e1
theorem bytes_one (e b n : Nat) : Bytes e (.slice (some ⟨b, 0, none⟩) 1 1) [n] [(b, .cells #[U8 (n : Int)] e)] :=
  ⟨rfl, .inr ⟨b, 1, #[U8 (n : Int)], rfl, rfl, Nat.le_refl _, by decide, rfl, rfl⟩⟩
section
variable {P : Program} {f : Nat → Value} {dst : Option Nat} {ty : TypeId} {pos : String} {af : Array Edge} {gd : Option (Nat × Bool)} {w0 : World} {F : Addr → Value → Prop} {C : World → Prop} {E L : List (Nat × Obj)}
theorem v_strOfE {x : Operand} {Sx T e : Nat} {v : Value} {l : List Nat} (hS : bytesB P Sx = true) (hT : strB P T = true) (hx : ev f x = v) (hE : Bytes e v l E) (h0 : 0 < l.length) (hb : Byt l) :
    Val P f (Has w0 F (E ++ L)) ⟨dst, .convert Sx T x, ty, pos, af, gd⟩ (S l) := by
  obtain ⟨g, c, cs, rfl, rfl, hc⟩ := hE.block h0
  exact v_strOf hS hT hx rfl (.here) hb hc
theorem v_shl {x y : Operand} {t t' : TypeId} {a b c : Int} (hx : ev f x = .int .i64 a) (hy : ev f y = .int .i64 b) (hb : 0 ≤ b ∧ b ≤ 64) (hc : IntKind.i64.wrap (a * 2 ^ b.toNat) = c) : Val P f C ⟨dst, .binOp .shl t x y t', ty, pos, af, gd⟩ (.int .i64 c) :=
  ⟨fun w _ => by
    have h1 := shift_shl .i64 .i64 a b hb.1 (show b ≤ 64 from hb.2)
    rw [hc] at h1
    simp [execOp, hx, hy, eqGuard, binOp, h1]
    exact hc⟩
end
section
variable {P : Program} {fn : Func} {n t t2 t3 T b m ty : Nat} {fr : Nat × Nat} {cs : Array Value} {f : Nat → Value} {v : Value} {w0 : World} {F F0 : Addr → Value → Prop} {L K B' : List (Nat × Obj)} {R : (Addr → Value → Prop) → Value → List (Nat × Obj) → Prop}
theorem n_doneW (hr : fn.results = #[.tmp t]) (ht : t < n) (hm : More F0 F) (hs : ∀ w, Has w0 F L w → Has w0 F (B' ++ K) w) (hv : R F (f t) B') : nC (retQ P fn n (retW w0 F0 K R)) .ret f (Has w0 F L) :=
  fun w hw => ⟨f t, results_one hr ht w, B', F, hm, hs w hw, hv⟩
theorem n_done3 (hr : fn.results = #[.tmp t, .tmp t2, .tmp t3]) (ht : t < n) (ht2 : t2 < n) (ht3 : t3 < n) (hv : .tuple #[f t, f t2, f t3] = v) :
    nC (retQ P fn n (fun v' w' => v' = v ∧ Bel w0.heap.size w0 w')) .ret f (Has w0 F L) := fun w hw => by
  refine ⟨.tuple #[f t, f t2, f t3], ?_, hv, hw.1⟩
  have e : (Fa n f).tmps[t]?.getD undef = f t := by simp [Fa, ht]
  have e2 : (Fa n f).tmps[t2]?.getD undef = f t2 := by simp [Fa, ht2]
  have e3 : (Fa n f).tmps[t3]?.getD undef = f t3 := by simp [Fa, ht3]
  simp [results, hr, e, e2, e3]
theorem n_doneCT (hr : fn.results = #[.cell t T, .tmp t2]) (ht : t < n) (ht2 : t2 < n) (hp : f t = .pointer (some ⟨b, 0, none⟩))
    (hT : aggB P T m = true) (hl : Look L b (.cells cs ty fr)) (hm : cs.size = m) (hv : .tuple #[.agg cs, f t2] = v) : nC (retQ P fn n (fun v' w' => v' = v ∧ Bel w0.heap.size w0 w')) .ret f (Has w0 F L) := fun w hw => by
  refine ⟨.tuple #[.agg cs, f t2], ?_, hv, hw.1⟩
  have e : (Fa n f).tmps[t]?.getD undef = f t := by simp [Fa, ht]
  have e2 : (Fa n f).tmps[t2]?.getD undef = f t2 := by simp [Fa, ht2]
  subst hm
  have := run_loadN (P := P) (w := w) (b := b) (o := 0) (cs := cs.toList) (by simpa using hT) (fun j v hj => by
    rw [cell_has hw hl]; simpa using hj)
  simp only [Instr.loadAt, Instr.sureAddr, Sem.run_bind, Sem.run_pure, Result.andThen] at this
  simp [results, hr, e, e2, hp, asAddr, this]
theorem n_doneCTT (hr : fn.results = #[.cell t T, .tmp t2, .tmp t3]) (ht : t < n) (ht2 : t2 < n) (ht3 : t3 < n) (hp : f t = .pointer (some ⟨b, 0, none⟩))
    (hT : aggB P T m = true) (hl : Look L b (.cells cs ty fr)) (hm : cs.size = m) (hv : .tuple #[.agg cs, f t2, f t3] = v) : nC (retQ P fn n (fun v' w' => v' = v ∧ Bel w0.heap.size w0 w')) .ret f (Has w0 F L) := fun w hw => by
  refine ⟨.tuple #[.agg cs, f t2, f t3], ?_, hv, hw.1⟩
  have e : (Fa n f).tmps[t]?.getD undef = f t := by simp [Fa, ht]
  have e2 : (Fa n f).tmps[t2]?.getD undef = f t2 := by simp [Fa, ht2]
  have e3 : (Fa n f).tmps[t3]?.getD undef = f t3 := by simp [Fa, ht3]
  subst hm
  have := run_loadN (P := P) (w := w) (b := b) (o := 0) (cs := cs.toList) (by simpa using hT) (fun j v hj => by
    rw [cell_has hw hl]; simpa using hj)
  simp only [Instr.loadAt, Instr.sureAddr, Sem.run_bind, Sem.run_pure, Result.andThen] at this
  simp [results, hr, e, e2, e3, hp, asAddr, this]
end
theorem Has.less {w0 w : World} {F F' : Addr → Value → Prop} {L : List (Nat × Obj)} (h : Has w0 F' L w) (hm : More F F') : Has w0 F L w := ⟨h.1, h.2.1, h.2.2.1, fun a v hF => h.2.2.2 a v (hm a v hF)⟩
/-- a call that changes the blocks B, and of which no more is to be known than what it hands back -/
theorem s_callB {P : Program} {ops : Array Oper} {K : (Nat → Value) → World → Prop} {rest : List Oper} {f : Nat → Value} {d : Nat} {ty : TypeId} {pos : String} {af : Array Edge} {w0 : World} {F : Addr → Value → Prop} {B L : List (Nat × Obj)}
    {k : FuncId} {xs : List Operand} {ats : Array TypeId} {R : Value → List (Nat × Obj) → Prop} (hk : hasBody P k = true) (hg : GivesW P k (xs.map (ev f)) F B (fun _ v B' => R v B'))
    (kk : ∀ (v : Value) (B' : List (Nat × Obj)), R v B' → sC P ops K rest (upd f d v) (Has w0 F (B' ++ L))) :
    sC P ops K (⟨some d, .call ⟨.value (.func k), xs.toArray, ats⟩, ty, pos, af, none⟩ :: rest) f (Has w0 F (B ++ L)) :=
  s_callW hk hg fun _ v B' hm hr => s_weak (fun _ hw => hw.less hm) (kk v B' hr)
theorem Bytes.snoc {e : Nat} {v : Value} {l : List Nat} {E : List (Nat × Obj)} {x : Int} {b : Nat} (h : ListE e 1 v (l.length + 1) (u8s l ++ (U8 x).cells.toList) E) (hx : x = (b : Int)) : Bytes e v (l ++ [b]) E := by
  subst hx
  unfold Bytes
  rw [u8s_append, List.length_append]
  exact h
theorem Bytes.push {e : Nat} {v : Value} {l m : List Nat} {E : List (Nat × Obj)} (h : ListE e 1 v (l.length + m.length) (u8s l ++ u8s m) E) : Bytes e v (l ++ m) E := by
  unfold Bytes
  rw [u8s_append, List.length_append]
  exact h
/-! what is written, number by number -/
def bodyTo (a : ActS) (k : Nat) : List Nat := (a.list.take k).flatMap fun n => digs (zig n)
theorem body_five (a : ActS) : bodyTo a 5 = bodyOf a := by simp [bodyTo, bodyOf, ActS.list]
theorem body_step {a : ActS} {k : Nat} {n : Int} (h : a.list[k]? = some n) : bodyTo a (k + 1) = bodyTo a k ++ digs (zig n) := by
  unfold bodyTo
  rw [List.take_add_one, h]; simp
theorem noted_list {a : ActS} (h : noted a = true) {k : Nat} {n : Int} (hk : a.list[k]? = some n) : notedI n = true := by
  obtain ⟨h1, h2, h3, h4, h5⟩ := noted_all h
  have := List.mem_of_getElem? hk
  simp only [ActS.list, List.mem_cons, List.not_mem_nil, or_false] at this
  rcases this with rfl | rfl | rfl | rfl | rfl <;> assumption
theorem body_room {a : ActS} (h : noted a = true) : ∀ k, (bodyTo a k).length ≤ 5 * k
  | 0 => by simp [bodyTo]
  | k + 1 => by
    have ih := body_room h k
    cases hk : a.list[k]? with
    | none => unfold bodyTo at ih ⊢; rw [List.take_add_one, hk]; simp only [Option.toList_none, List.append_nil]; omega
    | some n =>
      have := digs_len5 (noted_list h hk)
      rw [body_step hk, List.length_append]; omega
theorem ActS.get (a : ActS) {k : Nat} (hk : k < 5) : ∃ n, a.list[k]? = some n ∧ a.cells[((k : Nat) : Int).toNat * 1]? = some (I n) := by
  have : k = 0 ∨ k = 1 ∨ k = 2 ∨ k = 3 ∨ k = 4 := by omega
  rcases this with rfl | rfl | rfl | rfl | rfl <;> exact ⟨_, rfl, rfl⟩
structure FB where
  k : Nat
  v : Value
  E : List (Nat × Obj)
structure AN where
  u : Nat
  m : List Nat
  v : Value
  E : List (Nat × Obj)
/-! numbers of at most five digits -/
structure Dig5 (t : List Nat) (j u : Nat) : Prop where
  j5 : j ≤ 5
  ub : u < 128 ^ j
  jl : j ≤ t.length
  rel : undig 5 t = (undig (5 - j) (t.drop j)).map fun p => (u + 128 ^ j * p.1, p.2)
theorem dig5_start (t : List Nat) : Dig5 t 0 0 := ⟨by omega, by decide, by omega, by
  simp only [Nat.sub_zero, List.drop_zero, Nat.pow_zero, Nat.one_mul, Nat.zero_add]
  cases undig 5 t <;> rfl⟩
theorem Dig5.step {t : List Nat} {j u b : Nat} (o : Dig5 t j u) (hb : t[j]? = some b) (h1 : ¬ b < 128) (h2 : b < 256) (hj : j < 5) : Dig5 t (j + 1) (u + b % 128 * 128 ^ j) := by
  have e : b % 128 = b - 128 := by omega
  rw [e]
  refine ⟨by omega, ?_, (List.getElem?_eq_some_iff.1 hb).1, ?_⟩
  · have := o.ub
    have h3 : (b - 128) * 128 ^ j ≤ 127 * 128 ^ j := Nat.mul_le_mul_right _ (by omega)
    rw [Nat.pow_succ]; omega
  · rw [o.rel, drop_cons hb, show 5 - j = (5 - (j + 1)) + 1 by omega, undig, if_neg (by omega)]
    cases undig (5 - (j + 1)) (t.drop (j + 1)) with
    | none => rfl
    | some p =>
      simp only [Option.map_some]
      congr 2
      rw [Nat.mul_add, Nat.pow_succ, ← Nat.mul_assoc, Nat.mul_comm (128 ^ j) (b - 128), Nat.add_assoc]
theorem Dig5.stop {t : List Nat} {j u : Nat} (o : Dig5 t j u) (h : t.length ≤ j ∨ 5 ≤ j) : undig 5 t = none := by
  have h5 := o.j5
  rw [o.rel]
  by_cases e : j = 5
  · subst e; rfl
  · rw [List.drop_eq_nil_of_le (by omega), show 5 - j = (4 - j) + 1 by omega]; rfl
theorem Dig5.last {t : List Nat} {j u b : Nat} (o : Dig5 t j u) (hb : t[j]? = some b) (h1 : b < 128) (hj : j < 5) : undig 5 t = some (u + b % 128 * 128 ^ j, t.drop (j + 1)) := by
  rw [Nat.mod_eq_of_lt h1, o.rel, drop_cons hb, show 5 - j = (4 - j) + 1 by omega, undig, if_pos h1, Option.map_some, Nat.mul_comm (128 ^ j) b]
theorem pow5 {j : Nat} (h : j < 5) : 128 ^ j ≤ 268435456 ∧ (2 : Int) ^ ((7 : Int) * ((j : Nat) : Int)).toNat = ((128 ^ j : Nat) : Int) := by
  have : j = 0 ∨ j = 1 ∨ j = 2 ∨ j = 3 ∨ j = 4 := by omega
  rcases this with rfl | rfl | rfl | rfl | rfl <;> exact ⟨by decide, rfl⟩
theorem dig5_fits {b p : Nat} (hp : p ≤ 268435456) : b % 128 * p ≤ 34359738368 := by
  have : b % 128 * p ≤ 127 * 268435456 := Nat.mul_le_mul (by omega) hp
  omega
theorem shl5 {b j : Nat} (hj : j < 5) : IntKind.i64.wrap (((b % 128 : Nat) : Int) * 2 ^ ((7 : Int) * ((j : Nat) : Int)).toNat) = ((b % 128 * 128 ^ j : Nat) : Int) := by
  rw [(pow5 hj).2, ← Int.natCast_mul]
  have := dig5_fits (b := b) (pow5 hj).1
  exact wr_in (by omega) (by omega)
def rnV (l : List Nat) : Int := match undig 5 l with
  | none => 0
  | some p => zag p.1
def rnK (l : List Nat) : Nat := match undig 5 l with
  | none => 0
  | some p => l.length - p.2.length
def rnB (l : List Nat) : Bool := (undig 5 l).isSome
def numR (l : List Nat) : Value := .tuple #[I (rnV l), I (rnK l : Nat), .bool (rnB l)]
theorem numR_no {l : List Nat} (h : undig 5 l = none) : .tuple #[I 0, I 0, .bool false] = numR l := by simp [numR, rnV, rnK, rnB, h]
theorem numR_yes {l : List Nat} {u j : Nat} (h : undig 5 l = some (u, l.drop (j + 1))) (hj : j < l.length) : .tuple #[I (zag u), I ((j : Int) + 1), .bool true] = numR l := by
  simp only [numR, rnV, rnK, rnB, h, Option.isSome_some, List.length_drop]
  congr 5
  omega
theorem zag_odd5 {u : Nat} (h : ¬ ((u % 2 : Nat) : Int) = 0) : (-((u : Int) + 1)).tdiv 2 = zag u := by
  unfold zag
  rw [if_pos (by omega), Int.neg_tdiv, show ((u : Int) + 1).tdiv 2 = (((u + 1) / 2 : Nat) : Int) from tdiv_nat (u + 1) 2]
  omega
theorem zag_even5 {u : Nat} (h : ((u % 2 : Nat) : Int) = 0) : ((u / 2 : Nat) : Int) = zag u := by unfold zag; rw [if_neg (by omega)]
theorem zag_bound (u : Nat) : -(u : Int) - 1 ≤ zag u ∧ zag u ≤ u := by unfold zag; split <;> omega
theorem undig_drop : ∀ (f : Nat) {l : List Nat} {u : Nat} {r : List Nat}, undig f l = some (u, r) → ∃ k, k ≤ l.length ∧ r = l.drop k
  | 0, l, u, r, h => by simp [undig] at h
  | f + 1, [], u, r, h => by simp [undig] at h
  | f + 1, b :: l, u, r, h => by
    unfold undig at h
    split at h
    · simp at h
      exact ⟨1, by simp, h.2.symm⟩
    · cases hq : undig f l with
      | none => rw [hq] at h; cases h
      | some p =>
        rw [hq] at h
        simp at h
        obtain ⟨k, h2, h3⟩ := undig_drop f (show undig f l = some (p.1, p.2) from hq)
        exact ⟨k + 1, by simp only [List.length_cons]; omega, by rw [← h.2, h3]; rfl⟩
theorem rn_yes {l : List Nat} (h : rnB l = true) : ∃ u, undig 5 l = some (u, l.drop (rnK l)) ∧ rnV l = zag u ∧ rnK l ≤ l.length := by
  unfold rnB at h
  cases hq : undig 5 l with
  | none => rw [hq] at h; cases h
  | some p =>
    obtain ⟨k, h2, h3⟩ := undig_drop 5 (show undig 5 l = some (p.1, p.2) from hq)
    have e : rnK l = k := by
      simp only [rnK, hq, h3, List.length_drop]; omega
    refine ⟨p.1, by rw [e, ← h3], by simp [rnV, hq], by omega⟩
theorem rn_no {l : List Nat} (h : rnB l = false) : undig 5 l = none := by
  unfold rnB at h
  cases hq : undig 5 l with
  | none => rfl
  | some p => rw [hq] at h; cases h
/-! five of them, one behind the other -/
def nums5 : Nat → List Nat → Option (List Nat × List Nat)
  | 0, l => some ([], l)
  | k + 1, l => match nums5 k l with
    | none => none
    | some (us, t) => (undig 5 t).map fun p => (us ++ [p.1], p.2)
theorem nums5_step {k : Nat} {l us t : List Nat} (h : nums5 k l = some (us, t)) : nums5 (k + 1) l = (undig 5 t).map fun p => (us ++ [p.1], p.2) := by simp only [nums5, h]
theorem nums5_none {k : Nat} {l : List Nat} (h : nums5 k l = none) : ∀ m, nums5 (k + m) l = none
  | 0 => h
  | m + 1 => by
    have := nums5_none h m
    rw [show k + (m + 1) = (k + m) + 1 by omega]
    simp only [nums5, this]
theorem nums5_body {x : ActS} (h : noted x = true) (r : List Nat) : nums5 5 (bodyOf x ++ r) = some ([zig x.kind, zig x.a, zig x.b, zig x.c, zig x.n], r) := by
  obtain ⟨h1, h2, h3, h4, h5⟩ := noted_all h
  have e1 := undig_digs 4 _ (digs (zig x.a) ++ (digs (zig x.b) ++ (digs (zig x.c) ++ (digs (zig x.n) ++ r)))) (zig_lt h1)
  have e2 := undig_digs 4 _ (digs (zig x.b) ++ (digs (zig x.c) ++ (digs (zig x.n) ++ r))) (zig_lt h2)
  have e3 := undig_digs 4 _ (digs (zig x.c) ++ (digs (zig x.n) ++ r)) (zig_lt h3)
  have e4 := undig_digs 4 _ (digs (zig x.n) ++ r) (zig_lt h4)
  have e5 := undig_digs 4 _ r (zig_lt h5)
  simp only [nums5, bodyOf, List.append_assoc]
  simp only [e1, e2, e3, e4, e5, Option.map_some]
  rfl
def gNums (l : List Nat) : Option (List Nat × List Nat) := nums5 5 (l.drop 1)
def zeroA : ActS := ⟨0, 0, 0, 0, 0⟩
def gAct (l : List Nat) : ActS := match gNums l with
  | none => zeroA
  | some p => actOf p.1
def gOk (l : List Nat) : Bool := (gNums l).isSome
def guessR (l : List Nat) : Value := .tuple #[.agg (gAct l).cells, .bool (gOk l)]
theorem guess_no {l : List Nat} (h : gNums l = none) : .tuple #[.agg zeroA.cells, .bool false] = guessR l := by simp [guessR, gAct, gOk, h]
theorem guess_yes {l us t : List Nat} (h : gNums l = some (us, t)) (hu : us.length = 5) : .tuple #[.agg (act5 us).cells, .bool true] = guessR l := by simp [guessR, gAct, gOk, h, act5_of hu]
structure GS where
  k : Nat
  us : List Nat
  rest : List Nat
structure GsOk (B : List Nat) (s : GS) : Prop where
  k5 : s.k ≤ 5
  ul : s.us.length = s.k
  run : nums5 s.k B = some (s.us, s.rest)
  byt : Byt s.rest
  len : s.rest.length ≤ B.length
theorem GsOk.start {l : List Nat} (hb : Byt l) : GsOk (l.drop 1) ⟨0, [], l.drop 1⟩ := ⟨Nat.zero_le _, rfl, rfl, hb.drop 1, Nat.le_refl _⟩
theorem GsOk.next {B : List Nat} {s : GS} (o : GsOk B s) (hk : s.k < 5) {u : Nat} (hu : undig 5 s.rest = some (u, s.rest.drop (rnK s.rest))) : GsOk B ⟨s.k + 1, s.us ++ [u], s.rest.drop (rnK s.rest)⟩ := by
  have h1 := o.len
  refine ⟨hk, by simp [o.ul], ?_, o.byt.drop _, by simp only [List.length_drop]; omega⟩
  rw [nums5_step o.run, hu]; rfl
theorem GsOk.gone {B : List Nat} {s : GS} (o : GsOk B s) (hk : s.k < 5) (hu : undig 5 s.rest = none) : nums5 5 B = none := by
  have h1 : nums5 (s.k + 1) B = none := by rw [nums5_step o.run, hu]; rfl
  have := nums5_none h1 (4 - s.k)
  rwa [show s.k + 1 + (4 - s.k) = 5 by omega] at this
theorem guess_nil {l : List Nat} (h : l = []) : gNums l = none := by subst h; rfl
/-! the frame in front -/
theorem stands_nums {x : ActS} {l : List Nat} (h : Stands x l) : ∃ t, gNums l = some ([zig x.kind, zig x.a, zig x.b, zig x.c, zig x.n], t) := by
  obtain ⟨nx, r, hr⟩ := h
  have e : l.drop 1 = bodyOf x ++ ([(sumOf (bodyOf x)).1 % 251, (sumOf (bodyOf x)).2 % 251] ++ r) := by rw [← hr]; simp [frameOf]
  exact ⟨_, by unfold gNums; rw [e]; exact nums5_body nx _⟩
theorem first_gone {l : List Nat} (h : gOk l = false) : first? l = none := (first_none _).2 fun x hx => by
  obtain ⟨t, ht⟩ := stands_nums hx
  simp [gOk, ht] at h
theorem first_other {l : List Nat} (h : gOk l = true) (hno : ¬ (noted (gAct l) = true ∧ frameOf (gAct l) <+: l)) : first? l = none := (first_none _).2 fun x hx => by
  obtain ⟨t, ht⟩ := stands_nums hx
  have e : gAct l = x := by simp only [gAct, ht]; exact actOf_zig x
  rw [e] at hno
  exact hno hx
theorem first_this {l : List Nat} (h1 : noted (gAct l) = true) (h2 : frameOf (gAct l) <+: l) : first? l = some (gAct l) := (first_iff _ _).2 ⟨h1, h2⟩
def rfAct (l : List Nat) : ActS := (first? l).getD zeroA
def rfLen (l : List Nat) : Nat := match first? l with
  | none => 0
  | some x => (frameOf x).length
def rfOk (l : List Nat) : Bool := (first? l).isSome
def frontR (l : List Nat) : Value := .tuple #[.agg (rfAct l).cells, I (rfLen l : Nat), .bool (rfOk l)]
theorem front_no {l : List Nat} (h : first? l = none) : .tuple #[.agg zeroA.cells, I 0, .bool false] = frontR l := by simp [frontR, rfAct, rfLen, rfOk, h]
theorem front_yes {l : List Nat} {x : ActS} (h : first? l = some x) : .tuple #[.agg x.cells, I ((frameOf x).length : Nat), .bool true] = frontR l := by simp [frontR, rfAct, rfLen, rfOk, h]
theorem rf_yes {l : List Nat} (h : rfOk l = true) : first? l = some (rfAct l) ∧ rfLen l = (frameOf (rfAct l)).length := by
  unfold rfOk at h
  cases hq : first? l with
  | none => rw [hq] at h; cases h
  | some x => exact ⟨by simp [rfAct, hq], by simp [rfAct, rfLen, hq]⟩
theorem rf_no {l : List Nat} (h : rfOk l = false) : first? l = none := by
  unfold rfOk at h
  cases hq : first? l with
  | none => rfl
  | some x => rw [hq] at h; cases h
/-- whether a text begins with another -/
def begins (l f : List Nat) : Bool := decide (l.take f.length = f)
theorem begins_iff {l f : List Nat} : begins l f = true ↔ f <+: l := by
  unfold begins
  rw [decide_eq_true_iff, List.prefix_iff_eq_take]
  exact eq_comm
theorem begins_short {l f : List Nat} (h : ¬ f.length ≤ l.length) : begins l f = false := by
  cases hq : begins l f with
  | false => rfl
  | true => exact absurd (begins_iff.1 hq).length_le h
section
variable {P : Program} {f : Nat → Value} {dst : Option Nat} {ty : TypeId} {pos : String} {af : Array Edge} {gd : Option (Nat × Bool)} {C : World → Prop}
def least (a b : Int) : Int := if b < a then b else a
theorem v_least {x y : Operand} {ats : Array TypeId} {a b : Int} (hx : ev f x = I a) (hy : ev f y = I b) : Val P f C ⟨dst, .call ⟨.builtin .min, #[x, y], ats⟩, ty, pos, af, gd⟩ (I (least a b)) :=
  ⟨fun w _ => by simp [execOp, resolve, invoke, builtin, hx, hy, Builtin.min_, Builtin.min2, least]⟩
end
end Go.Proofs.Ytbajdhahmmfhcaa
