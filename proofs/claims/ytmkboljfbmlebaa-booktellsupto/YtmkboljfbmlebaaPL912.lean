/- What bookTellsUpto_holds stands on, part 12: each part says what it proves. No condition beside those that it names. -/
import Derived.Test.YtmkboljfbmlebaaPL911
/- Contract of the document side of a frame. No condition. -/
namespace Go.Proofs.Ytmkboljfbmlebaa
open Go.RowKit
set_option linter.unusedSimpArgs false
set_option linter.unusedVariables false
set_option maxRecDepth 100000
attribute [local irreducible] cC sC nC rC qw

theorem gr_FrameOf (a : ActS) (w : World) : Gives Try.prog 50 [.agg a.cells] w (frameR a) := by
  refine gives_of Try.func50 rfl Try.ntmps50 (by simp) ?_
  refine r_seq (by kernel_rfl) ?_
  refine s_box (v := .agg _) rfl (fun b1 => ?_)
  refine s_val (v_assign (v := S []) rfl) ?_
  refine s_val (v_assign (v := .int .i64 _) rfl) ?_
  refine s_nil ?_
  refine c_seq ?_
  refine r_seq (by kernel_rfl) ?_
  refine s_val (v_loadA (m := 5) (by kernel_rfl) rfl .here rfl) ?_
  refine s_call (by kernel_rfl) (fun w hw => gr_IsNoted a w) ?_
  refine s_val (v_not rfl) ?_
  refine s_nil ?_
  refine c_condN rfl rfl (fun h7 => ?_) (fun h7 => ?_)
  · refine r_seq (by kernel_rfl) ?_
    refine s_val (v_assign (v := S []) rfl) ?_
    refine s_val (v_assign (v := .int .i64 _) rfl) ?_
    refine s_nil ?_
    refine c_ret ?_
    refine n_ret ?_
    exact n_doneT rfl (by decide) (by decide) (by rw [frameR_no h7]; rfl)
  obtain ⟨n1, n2, n3, n4, n5⟩ := noted_all h7
  have l1 := digs_len5 n1
  have l2 := digs_len5 n2
  have l3 := digs_len5 n3
  have l4 := digs_len5 n4
  have l5 := digs_len5 n5
  have hbl := body_len h7
  refine c_skip ?_
  refine n_then ?_
  refine d_seq (by kernel_rfl) (by kernel_rfl) (fun w hw => hw.drew) (by kernel_rfl) ?_
  refine q_val (v_field (fo := 0) (by kernel_rfl) rfl) ?_
  refine q_val (v_load1 (v := .int .i64 _) (by kernel_rfl) rfl .here rfl) ?_
  refine q_call (by kernel_rfl) (fun w hw => gr_numberText _ w n1) ?_
  refine q_val (v_field (fo := 1) (by kernel_rfl) rfl) ?_
  refine q_val (v_load1 (v := .int .i64 _) (by kernel_rfl) rfl .here rfl) ?_
  refine q_call (by kernel_rfl) (fun w hw => gr_numberText _ w n2) ?_
  refine q_val (v_strAdd rfl rfl (by omega)) ?_
  refine q_val (v_field (fo := 2) (by kernel_rfl) rfl) ?_
  refine q_val (v_load1 (v := .int .i64 _) (by kernel_rfl) rfl .here rfl) ?_
  refine q_call (by kernel_rfl) (fun w hw => gr_numberText _ w n3) ?_
  refine q_val (v_strAdd rfl rfl (by rw [List.length_append]; omega)) ?_
  refine q_val (v_field (fo := 3) (by kernel_rfl) rfl) ?_
  refine q_val (v_load1 (v := .int .i64 _) (by kernel_rfl) rfl .here rfl) ?_
  refine q_call (by kernel_rfl) (fun w hw => gr_numberText _ w n4) ?_
  refine q_val (v_strAdd rfl rfl (by simp only [List.length_append]; omega)) ?_
  refine q_val (v_field (fo := 4) (by kernel_rfl) rfl) ?_
  refine q_val (v_load1 (v := .int .i64 _) (by kernel_rfl) rfl .here rfl) ?_
  refine q_call (by kernel_rfl) (fun w hw => gr_numberText _ w n5) ?_
  refine q_val (v_strAdd rfl rfl (by simp only [List.length_append]; omega)) ?_
  refine q_val (v_assign (v := S _) rfl) ?_
  refine q_nil ?_
  refine f_seq (T := (row 27 (Eqv (S (bodyOf a))) (row 28 (Eqv (I (bodyOf a).length)) (row 29 (Eqv (U8 ((bodyOf a).length : Nat))) (row 30 ((Byte1 ((bodyOf a).length))) (row 31 (Eqv (S [(bodyOf a).length])) (row 32 (Eqv (S (bodyOf a))) (row 33 (Eqv (S ([(bodyOf a).length] ++ bodyOf a))) (row 34 (Eqv (S (bodyOf a))) (row 35 (Eqv (S [(sumOf (bodyOf a)).1 % 251, (sumOf (bodyOf a)).2 % 251])) (row 36 (Eqv (S ([(bodyOf a).length] ++ bodyOf a ++ [(sumOf (bodyOf a)).1 % 251, (sumOf (bodyOf a)).2 % 251]))) (row 2 (Eqv (S ([(bodyOf a).length] ++ bodyOf a ++ [(sumOf (bodyOf a)).1 % 251, (sumOf (bodyOf a)).2 % 251]))) (row 3 (Eqv (.int .i64 (0))) (fun _ => Any)))))))))))))) (by kernel_rfl) (by kernel_rfl) (by kernel_rfl) (row_mono (eqv_mono _) (row_mono (eqv_mono _) (row_mono (eqv_mono _) (row_mono (byte1_mono _) (row_mono (eqv_mono _) (row_mono (eqv_mono _) (row_mono (eqv_mono _) (row_mono (eqv_mono _) (row_mono (eqv_mono _) (row_mono (eqv_mono _) (row_mono (eqv_mono _) (row_mono (eqv_mono _) (fun _ => any_mono))))))))))))) ⟨?_, ?_, ?_, ?_, ?_, ?_, ?_, ?_, ?_, ?_, ?_, ?_, trivial⟩ ?_
  · refine ob_free (fun g w hw hl => ?_)
    have e4 : g 4 = S (bodyOf a) := (hl 4 (of_decide_eq_true (by kernel_rfl))).2 (of_decide_eq_true (by kernel_rfl))
    exact x_val (v_move (v := S (bodyOf a)) e4) hw rfl
  · refine ob_free (fun g w hw hl => ?_)
    have e27 : g 27 = S (bodyOf a) := (hl 27 (of_decide_eq_true (by kernel_rfl))).1 (of_decide_eq_true (by kernel_rfl))
    exact x_val (v_strLen (by kernel_rfl) rfl e27) hw rfl
  · refine ob_free (fun g w hw hl => ?_)
    have e28 : g 28 = I (bodyOf a).length := (hl 28 (of_decide_eq_true (by kernel_rfl))).1 (of_decide_eq_true (by kernel_rfl))
    exact x_val (v_toU8 (by kernel_rfl) e28 ⟨by omega, by omega⟩) hw rfl
  · refine ob_free (fun g w hw hl => ?_)
    have e29 : g 29 = U8 ((bodyOf a).length : Nat) := (hl 29 (of_decide_eq_true (by kernel_rfl))).1 (of_decide_eq_true (by kernel_rfl))
    exact x_build1 (e := 5) (by_ := 1) (n := (bodyOf a).length) (by kernel_rfl) e29 (fun _ _ h => h)
  · refine ob_free (fun g w hw hl => ?_)
    obtain ⟨b30, e30, f30⟩ := (show (Byte1 ((bodyOf a).length)) (At w) (g 30) from (hl 30 (of_decide_eq_true (by kernel_rfl))).1 (of_decide_eq_true (by kernel_rfl)))
    exact x_strOf (n := (bodyOf a).length) (by kernel_rfl) (by kernel_rfl) (by omega) e30 f30 rfl
  · refine ob_free (fun g w hw hl => ?_)
    have e4 : g 4 = S (bodyOf a) := (hl 4 (of_decide_eq_true (by kernel_rfl))).2 (of_decide_eq_true (by kernel_rfl))
    exact x_val (v_move (v := S (bodyOf a)) e4) hw rfl
  · refine ob_free (fun g w hw hl => ?_)
    have e31 : g 31 = S [(bodyOf a).length] := (hl 31 (of_decide_eq_true (by kernel_rfl))).1 (of_decide_eq_true (by kernel_rfl))
    have e32 : g 32 = S (bodyOf a) := (hl 32 (of_decide_eq_true (by kernel_rfl))).1 (of_decide_eq_true (by kernel_rfl))
    exact x_val (v_strAdd e31 e32 (by simp only [List.length_append, List.length_cons, List.length_nil]; omega)) hw rfl
  · refine ob_free (fun g w hw hl => ?_)
    have e4 : g 4 = S (bodyOf a) := (hl 4 (of_decide_eq_true (by kernel_rfl))).2 (of_decide_eq_true (by kernel_rfl))
    exact x_val (v_move (v := S (bodyOf a)) e4) hw rfl
  · refine ob_free (fun g w hw hl => ?_)
    have e34 : g 34 = S (bodyOf a) := (hl 34 (of_decide_eq_true (by kernel_rfl))).1 (of_decide_eq_true (by kernel_rfl))
    exact x_call (v := S [(sumOf (bodyOf a)).1 % 251, (sumOf (bodyOf a)).2 % 251]) (vs := [S (bodyOf a)]) (by kernel_rfl) (by show [g 34] = _; rw [e34]) (gr_sums (bodyOf a) w (fun b hb => body_byte a b hb) (by omega)) (fun _ => rfl)
  · refine ob_free (fun g w hw hl => ?_)
    have e33 : g 33 = S ([(bodyOf a).length] ++ bodyOf a) := (hl 33 (of_decide_eq_true (by kernel_rfl))).1 (of_decide_eq_true (by kernel_rfl))
    have e35 : g 35 = S [(sumOf (bodyOf a)).1 % 251, (sumOf (bodyOf a)).2 % 251] := (hl 35 (of_decide_eq_true (by kernel_rfl))).1 (of_decide_eq_true (by kernel_rfl))
    exact x_val (v_strAdd e33 e35 (by simp only [List.length_append, List.length_cons, List.length_nil]; omega)) hw rfl
  · refine ob_free (fun g w hw hl => ?_)
    have e36 : g 36 = S ([(bodyOf a).length] ++ bodyOf a ++ [(sumOf (bodyOf a)).1 % 251, (sumOf (bodyOf a)).2 % 251]) := (hl 36 (of_decide_eq_true (by kernel_rfl))).1 (of_decide_eq_true (by kernel_rfl))
    exact x_val (v_assign (v := S ([(bodyOf a).length] ++ bodyOf a ++ [(sumOf (bodyOf a)).1 % 251, (sumOf (bodyOf a)).2 % 251])) e36) hw rfl
  · refine ob_free (fun g w hw hl => ?_)
    exact x_val (v_assign (v := .int .i64 (0)) rfl) hw rfl
  intro g w hw hd he
  have e2 : g 2 = S ([(bodyOf a).length] ++ bodyOf a ++ [(sumOf (bodyOf a)).1 % 251, (sumOf (bodyOf a)).2 % 251]) := hd 2 (of_decide_eq_true (by kernel_rfl))
  have e3 : g 3 = .int .i64 0 := hd 3 (of_decide_eq_true (by kernel_rfl))
  obtain ⟨g1, hg1⟩ : ∃ g1, g = (upd (upd g1 2 (S ([(bodyOf a).length] ++ bodyOf a ++ [(sumOf (bodyOf a)).1 % 251, (sumOf (bodyOf a)).2 % 251]))) 3 (.int .i64 0)) := ⟨g, live2 e2 e3⟩
  rw [hg1]
  refine cC_at ?_ hw
  refine c_ret ?_
  exact n_doneT rfl (by decide) (by decide) (by rw [frameR_yes h7]; rfl)

end Go.Proofs.Ytmkboljfbmlebaa
/- Contract of the document side of reading. Condition: a text that is no longer than a few million bytes. -/
namespace Go.Proofs.Ytmkboljfbmlebaa
open Go.RowKit
set_option linter.unusedSimpArgs false
set_option linter.unusedVariables false
set_option maxRecDepth 100000
attribute [local irreducible] cC sC nC rC qw

set_option maxHeartbeats 4000000 in
theorem gr_ReadBook (l : List Nat) (w : World) (hb : Byt l) (hl : l.length ≤ 8388608) : GivesF Try.prog 52 [S l] w (ReadF l) := by
  refine givesF_of Try.func52 rfl Try.ntmps52 (by simp) ?_
  refine r_seq (by kernel_rfl) ?_
  refine s_val (v_assign (v := .slice _ _ _) rfl) ?_
  refine s_val (v_assign (v := .int .i64 _) rfl) ?_
  refine s_nil ?_
  refine r_seq (by kernel_rfl) ?_
  refine s_val (v_assign (v := .slice _ _ _) rfl) ?_
  refine s_nil ?_
  refine r_seq (by kernel_rfl) ?_
  refine s_val (v_assign (v := .int .i64 _) rfl) ?_
  refine s_nil ?_
  refine c_seq ?_
  refine c_block ?_
  refine c_loop (σ := RB) (fun (s : RB) f => ∃ g, (RbOk 54 l s) ∧ f = (upd (upd (upd g 0 (S l)) 4 (s.v)) 5 (I ((bytesOf s.xs).length : Nat)))) (fun (s : RB) => Has w (At w) (s.E ++ [])) (fun (s : RB) => l.length - (bytesOf s.xs).length) ⟨[], .slice none 0 0, []⟩ ⟨_, ⟨listE_nil _ _, Nat.zero_le _, rfl, Nat.le_refl _⟩, live3 rfl rfl rfl⟩ (fun w hw => hw) ?_
  rintro s _ ⟨g, ho, rfl⟩
  refine c_seq ?_
  refine r_seq (by kernel_rfl) ?_
  refine s_val (v_move (v := .int .i64 _) rfl) ?_
  refine s_val (v_move (v := S _) rfl) ?_
  refine s_val (v_strLen (by kernel_rfl) rfl rfl) ?_
  refine s_val (v_lss (k := .i64) rfl rfl) ?_
  refine s_nil ?_
  refine c_condR rfl rfl (fun h19 => ?_) (fun h19 => ?_)
  · refine c_exit ?_
    refine n_exit ?_
    refine n_exit ?_
    refine n_bhere ?_
    refine n_then ?_
    refine r_seq (by kernel_rfl) ?_
    refine s_val (v_move (v := _) rfl) ?_
    refine s_val (v_move (v := .int .i64 _) rfl) ?_
    refine s_val (v_assign (v := _) rfl) ?_
    refine s_val (v_assign (v := .int .i64 _) rfl) ?_
    refine s_nil ?_
    refine c_ret ?_
    refine n_doneTF rfl (by decide) (by decide) (fun w hw => ?_)
    exact ho.done (by rw [List.drop_eq_nil_of_le (by have := of_decide_eq_false h19; omega)]; rfl) (own_fresh hw)
  have hpos := of_decide_eq_true h19
  obtain ⟨k0, r, hr⟩ : ∃ k0 r, l.drop (bytesOf s.xs).length = k0 :: r := by
    cases hc : l.drop (bytesOf s.xs).length with
    | nil => have := congrArg List.length hc; rw [List.length_drop] at this; simp only [List.length_nil] at this; omega
    | cons k0 r => exact ⟨k0, r, rfl⟩
  have hfront := ho.front
  have hbr : Byt (k0 :: r) := by rw [← hr]; exact hb.drop _
  have hk256 := hbr k0 (by simp)
  have hrl : (k0 :: r).length ≤ l.length := by rw [← hr, List.length_drop]; omega
  refine c_skip ?_
  refine n_then ?_
  refine c_block ?_
  refine r_seq (by kernel_rfl) ?_
  refine s_val (v_move (v := S _) rfl) ?_
  refine s_val (v_move (v := .int .i64 _) rfl) ?_
  refine s_val (v := S (k0 :: r)) (by rw [← hr]; exact v_strLo (a := l) (i := ((bytesOf s.xs).length : Nat)) (by kernel_rfl) rfl rfl ⟨by omega, by omega⟩) ?_
  refine s_val (v_assign (v := S _) rfl) ?_
  refine s_nil ?_
  refine r_seq (by kernel_rfl) ?_
  refine s_val (v_move (v := S _) rfl) ?_
  refine s_val (v_strIdx (by kernel_rfl) rfl rfl (by decide) rfl hk256) ?_
  refine s_val (v_ofU8 (by kernel_rfl) rfl ⟨by omega, by omega⟩) ?_
  refine s_val (v_add rfl rfl (by omega)) ?_
  refine s_val (v_assign (v := .int .i64 _) rfl) ?_
  refine s_nil ?_
  refine c_seq ?_
  refine r_seq (by kernel_rfl) ?_
  refine s_val (v_move (v := S _) rfl) ?_
  refine s_val (v_strLen (by kernel_rfl) rfl rfl) ?_
  refine s_val (v_move (v := .int .i64 _) rfl) ?_
  refine s_val (v_lss (k := .i64) rfl rfl) ?_
  refine s_nil ?_
  refine c_cond rfl rfl (fun h30 => ?_) (fun h30 => ?_)
  · refine c_exit ?_
    refine n_exit ?_
    refine n_bpast rfl ?_
    refine n_exit ?_
    refine n_bhere ?_
    refine n_then ?_
    refine r_seq (by kernel_rfl) ?_
    refine s_val (v_move (v := _) rfl) ?_
    refine s_val (v_move (v := .int .i64 _) rfl) ?_
    refine s_val (v_assign (v := _) rfl) ?_
    refine s_val (v_assign (v := .int .i64 _) rfl) ?_
    refine s_nil ?_
    refine c_ret ?_
    refine n_doneTF rfl (by decide) (by decide) (fun w hw => ?_)
    exact ho.done (by rw [hr]; exact read_short (by have := of_decide_eq_true h30; omega)) (own_fresh hw)
  have hsz := of_decide_eq_false h30
  have hrl2 : r.length + 1 = (k0 :: r).length := rfl
  have hBl : (r.take k0).length = k0 := by rw [List.length_take]; omega
  have hBi : ∀ i : Nat, i < k0 → (r.take k0)[i]? = (k0 :: r)[i + 1]? := fun i hi => by rw [List.getElem?_take, if_pos hi]; rfl
  refine c_skip ?_
  refine n_then ?_
  refine r_seq (by kernel_rfl) ?_
  refine s_alloc (z := .agg (vrow [])) (by kernel_rfl) (fun b8 => ?_)
  refine s_nil ?_
  refine r_seq (by kernel_rfl) ?_
  refine s_val (v_assign (v := .int .i64 _) rfl) ?_
  refine s_val (v_assign (v := .int .i64 _) rfl) ?_
  refine s_nil ?_
  refine c_seq ?_
  refine c_block ?_
  refine c_loop (σ := PG) (fun (t : PG) f => ∃ g, (PgOk k0 (r.take k0) t) ∧ f = (upd (upd (upd (upd (upd (upd (upd (upd g 0 (S l)) 4 (s.v)) 5 (I ((bytesOf s.xs).length : Nat))) 6 (S (k0 :: r))) 7 (I ((k0 : Int) + 3))) 8 (.pointer (some ⟨b8, 0, none⟩))) 9 (I (t.pos : Nat))) 10 (I (t.k : Nat)))) (fun (t : PG) => Has w (At w) ((b8, .cells (vrow t.us) 85) :: (s.E ++ []))) (fun (t : PG) => 5 - t.k) ⟨0, [], 1⟩ ⟨_, ⟨by decide, rfl, ⟨by decide, by dsimp only; omega⟩, rfl⟩, live8 rfl rfl rfl rfl rfl rfl rfl rfl⟩ (fun w hw => hw) ?_
  rintro t _ ⟨g, hpg, rfl⟩
  refine c_seq ?_
  have hk5' := hpg.k5
  have hp1' := hpg.p1
  refine r_seq (by kernel_rfl) ?_
  refine s_val (v_move (v := .int .i64 _) rfl) ?_
  refine s_val (v_lss (k := .i64) rfl rfl) ?_
  refine s_nil ?_
  refine c_condR rfl rfl (fun h32 => ?_) (fun h32 => ?_)
  · have hk55 : t.k = 5 := by have := of_decide_eq_false h32; omega
    refine c_exit ?_
    refine n_exit ?_
    refine n_exit ?_
    refine n_bhere ?_
    refine n_then ?_
    have hrun5 := hpg.run
    rw [hk55] at hrun5
    have hul5 := hpg.ul.trans hk55
    refine r_seq (by kernel_rfl) ?_
    refine s_val (v_idxA (len := 5) (size := 1) (k := .i64) (by kernel_rfl) rfl rfl (by decide)) ?_
    refine s_val (v_load1 (v := I (vnum t.us 0)) (by kernel_rfl) rfl .here (vrow_at t.us 0 (by decide))) ?_
    refine s_val (v_idxA (len := 5) (size := 1) (k := .i64) (by kernel_rfl) rfl rfl (by decide)) ?_
    refine s_val (v_load1 (v := I (vnum t.us 1)) (by kernel_rfl) rfl .here (vrow_at t.us 1 (by decide))) ?_
    refine s_val (v_idxA (len := 5) (size := 1) (k := .i64) (by kernel_rfl) rfl rfl (by decide)) ?_
    refine s_val (v_load1 (v := I (vnum t.us 2)) (by kernel_rfl) rfl .here (vrow_at t.us 2 (by decide))) ?_
    refine s_val (v_idxA (len := 5) (size := 1) (k := .i64) (by kernel_rfl) rfl rfl (by decide)) ?_
    refine s_val (v_load1 (v := I (vnum t.us 3)) (by kernel_rfl) rfl .here (vrow_at t.us 3 (by decide))) ?_
    refine s_val (v_idxA (len := 5) (size := 1) (k := .i64) (by kernel_rfl) rfl rfl (by decide)) ?_
    refine s_val (v_load1 (v := I (vnum t.us 4)) (by kernel_rfl) rfl .here (vrow_at t.us 4 (by decide))) ?_
    refine s_val (v_build (vs := [(0, .int .i64 _), (1, .int .i64 _), (2, .int .i64 _), (3, .int .i64 _), (4, .int .i64 _)]) (cs := (act5 t.us).cells) rfl (by kernel_rfl)) ?_
    refine s_alloc (z := zeroOf Try.prog 54) (by kernel_rfl) (fun b13 => ?_)
    refine s_storeA (m := 5) (by kernel_rfl) rfl rfl .here (by kernel_rfl) rfl (ActS.all1 _) ?_
    refine s_nil ?_
    refine c_seq ?_
    refine r_seq (by kernel_rfl) ?_
    refine s_val (v_loadA (m := 5) (by kernel_rfl) rfl .here rfl) ?_
    refine s_call (by kernel_rfl) (fun w hw => gr_FrameOf (act5 t.us) w) ?_
    refine s_val (v_move (v := .tuple _) rfl) ?_
    refine s_val (v_extract rfl rfl) ?_
    refine s_val (v_extract rfl rfl) ?_
    refine s_val (v_assign (v := S _) rfl) ?_
    refine s_val (v_assign (v := .int .i64 _) rfl) ?_
    refine s_nil ?_
    refine r_seq (by kernel_rfl) ?_
    refine s_val (v_move (v := .int .i64 _) rfl) ?_
    refine s_val (v_lss (k := .i64) rfl rfl) ?_
    refine s_val (v_move (v := .bool _) rfl) ?_
    refine s_want rfl rfl (decide_eq_false (by omega)) ?_
    refine s_val (v_move (v := .int .i64 _) rfl) ?_
    refine s_want rfl rfl (decide_eq_false (by omega)) ?_
    refine s_val (v_neq (k := .i64) rfl rfl) ?_
    refine s_val (v_pickF (v := .bool _) rfl (decide_eq_false (by omega)) rfl) ?_
    refine s_val (v_move (v := .bool _) rfl) ?_
    refine s_splitN (s := 117) rfl (fun h117 => ?_) (fun h117 => ?_)
    · refine s_pass rfl rfl (congrArg not h117) ?_
      refine s_pass rfl rfl (congrArg not h117) ?_
      refine s_pass rfl rfl (congrArg not h117) ?_
      refine s_pass rfl rfl (congrArg not h117) ?_
      refine s_pass rfl rfl (congrArg not h117) ?_
      refine s_val (v_pickT (v := .bool _) rfl (congrArg not h117) rfl) ?_
      refine s_nil ?_
      refine c_condTh rfl rfl rfl ?_
      refine c_exit ?_
      refine n_exit ?_
      refine n_bpast rfl ?_
      refine n_exit ?_
      refine n_bhere ?_
      refine n_then ?_
      refine r_seq (by kernel_rfl) ?_
      refine s_val (v_move (v := _) rfl) ?_
      refine s_val (v_move (v := .int .i64 _) rfl) ?_
      refine s_val (v_assign (v := _) rfl) ?_
      refine s_val (v_assign (v := .int .i64 _) rfl) ?_
      refine s_nil ?_
      refine c_ret ?_
      refine n_doneTF rfl (by decide) (by decide) (fun w hw => ?_)
      exact ho.done (by rw [hr]; exact read_other hrun5 (fun h => absurd (by rw [act5_of hul5]; simp [fErr, h.1]) (of_decide_eq_false h117))) (own_fresh (hw.sub (.cons _ (.cons _ (List.Sublist.refl _)))))
    refine s_want rfl rfl (congrArg not h117) ?_
    refine s_val (v_move (v := S _) rfl) ?_
    refine s_want rfl rfl (congrArg not h117) ?_
    refine s_val (v_move (v := S _) rfl) ?_
    refine s_want rfl rfl (congrArg not h117) ?_
    refine s_val (v_move (v := .int .i64 _) rfl) ?_
    refine s_want rfl rfl (congrArg not h117) ?_
    refine s_val (v_strHi (by kernel_rfl) rfl rfl ⟨by omega, by omega⟩) ?_
    refine s_want rfl rfl (congrArg not h117) ?_
    refine s_val (v_strNe rfl rfl (fText_byt _) (hbr.take _)) ?_
    refine s_val (v_pickF (v := .bool _) rfl (congrArg not h117) rfl) ?_
    refine s_nil ?_
    refine c_condN rfl rfl (fun h123 => ?_) (fun h123 => ?_)
    · refine c_exit ?_
      refine n_exit ?_
      refine n_bpast rfl ?_
      refine n_exit ?_
      refine n_bhere ?_
      refine n_then ?_
      refine r_seq (by kernel_rfl) ?_
      refine s_val (v_move (v := _) rfl) ?_
      refine s_val (v_move (v := .int .i64 _) rfl) ?_
      refine s_val (v_assign (v := _) rfl) ?_
      refine s_val (v_assign (v := .int .i64 _) rfl) ?_
      refine s_nil ?_
      refine c_ret ?_
      refine n_doneTF rfl (by decide) (by decide) (fun w hw => ?_)
      exact ho.done (by rw [hr]; exact read_other hrun5 (fun h => absurd (by rw [act5_of hul5]; simp only [fText, h.1, cond_true]; exact h.2) (of_decide_eq_false h123))) (own_fresh (hw.sub (.cons _ (.cons _ (List.Sublist.refl _)))))
    refine c_skip ?_
    refine n_then ?_
    refine c_weak (C' := Has w (At w) (s.E ++ [(b13, .cells (act5 t.us).cells 54)])) (fun _ hw => by
      have h1 := hw.sub (L' := (b13, .cells (act5 t.us).cells 54) :: (s.E ++ [])) (.cons_cons _ (.cons _ (List.Sublist.refl _)))
      rw [List.append_nil] at h1
      exact h1.perm (List.perm_append_comm (l₁ := [_]))) ?_
    have hn := fErr_ok (of_decide_eq_true h117)
    have hfe := of_decide_eq_true h123
    rw [act5_of hul5] at hn hfe
    simp only [fText, hn, cond_true] at hfe
    have hf := read_this (k0 := k0) (r := r) (us := t.us) hn hfe
    have hbl := (stands_body ((first_iff _ _).1 hf)).1
    rw [← hr, ← act5_of hul5] at hf
    rw [← act5_of hul5] at hbl
    have height := ho.eight
    refine r_list (by kernel_rfl) ?_
    refine s_val (v_move (v := _) rfl) ?_
    refine s_val (v_loadA (m := 5) (by kernel_rfl) rfl (.app .here) rfl) ?_
    refine s_build1 (v := .agg _) (e := 54) (m := 5) (by_ := 40) (by kernel_rfl) rfl rfl rfl (fill_one rfl) (fun b126 => ?_)
    refine s_push (e := 54) (m := 5) (by_ := 40) (by kernel_rfl) rfl rfl rfl rfl rfl ho.list rfl (ActS.all1 _) (by omega) (fun v127 E127 hE127 => ?_)
    refine s_val (v_move (v := .int .i64 _) rfl) ?_
    refine s_val (v_move (v := .int .i64 _) rfl) ?_
    refine s_val (v_add rfl rfl (by omega)) ?_
    refine s_val (v_assign (v := _) rfl) ?_
    refine s_val (v_assign (v := .int .i64 _) rfl) ?_
    refine s_end ?_
    refine n_bnormal ?_
    refine n_round (s := s) ⟨s.xs ++ [act5 t.us], v127, E127⟩ ⟨_, (ho.next hf hE127).1, live3 rfl rfl (congrArg I (by have h1 := (ho.next hf hE127).2; dsimp only; omega))⟩ (fun _ hw => hw.sub (List.Sublist.append (List.Sublist.refl _) (List.nil_sublist _))) (by have h1 := (ho.next hf hE127).2; have h2 := (ho.next hf hE127).1.front; dsimp only at h2 ⊢; omega)
  have hk5 : t.k < 5 := by have := of_decide_eq_true h32; omega
  refine c_skip ?_
  refine n_then ?_
  refine c_seq ?_
  refine c_block ?_
  refine r_seq (by kernel_rfl) ?_
  refine s_val (v_assign (v := .int .i64 _) rfl) ?_
  refine s_val (v_assign (v := .int .i64 _) rfl) ?_
  refine s_nil ?_
  refine c_seq ?_
  refine c_block ?_
  refine c_loop (σ := Nat × Nat) (fun (q : Nat × Nat) f => ∃ g, (Dig ((r.take k0).drop (t.pos - 1)) q.1 q.2) ∧ f = (upd (upd (upd (upd (upd (upd (upd (upd (upd (upd g 0 (S l)) 4 (s.v)) 5 (I ((bytesOf s.xs).length : Nat))) 6 (S (k0 :: r))) 7 (I ((k0 : Int) + 3))) 8 (.pointer (some ⟨b8, 0, none⟩))) 9 (I ((t.pos + q.1 : Nat) : Int))) 10 (I (t.k : Nat))) 11 (I (q.2 : Nat))) 12 (I ((128 ^ q.1 : Nat) : Int)))) (fun (q : Nat × Nat) => Has w (At w) ((b8, .cells (vrow t.us) 85) :: (s.E ++ []))) (fun (q : Nat × Nat) => 6 - q.1) (0, 0) ⟨_, dig_start _, live10 rfl rfl rfl rfl rfl rfl rfl rfl rfl rfl⟩ (fun w hw => hw) ?_
  rintro q _ ⟨g, hd, rfl⟩
  refine c_seq ?_
  have hdl : q.1 ≤ ((r.take k0).drop (t.pos - 1)).length := hd.jl
  rw [List.length_drop, hBl] at hdl
  have hp1 := hpg.p1
  have hj6 := hd.j6
  have hpw := pow_le42 hd.j6
  have hub := hd.ub
  have hu42 : q.2 < 4398046511104 := by omega
  refine r_seq (by kernel_rfl) ?_
  refine s_val (v_move (v := .int .i64 _) rfl) ?_
  refine s_val (v_move (v := .int .i64 _) rfl) ?_
  refine s_val (v_sub rfl rfl (by omega)) ?_
  refine s_val (v_lss (k := .i64) rfl rfl) ?_
  refine s_val (v_move (v := .bool _) rfl) ?_
  refine s_splitR (s := 39) rfl (fun h39 => ?_) (fun h39 => ?_)
  · refine s_pass rfl rfl h39 ?_
    refine s_pass rfl rfl h39 ?_
    refine s_pass rfl rfl h39 ?_
    refine s_pass rfl rfl h39 ?_
    refine s_val (v_pickF (v := .bool _) rfl h39 rfl) ?_
    refine s_val (v_move (v := .bool _) rfl) ?_
    refine s_pass (g := false) rfl rfl rfl ?_
    refine s_pass (g := false) rfl rfl rfl ?_
    refine s_val (v_pickF (v := .bool _) rfl rfl rfl) ?_
    refine s_nil ?_
    refine c_condFh rfl rfl rfl ?_
    refine c_exit ?_
    refine n_exit ?_
    refine n_exit ?_
    refine n_bhere ?_
    refine n_then ?_
    refine c_seq ?_
    refine r_seq (by kernel_rfl) ?_
    refine s_val (v_move (v := .int .i64 _) rfl) ?_
    refine s_val (v_move (v := .int .i64 _) rfl) ?_
    refine s_val (v_sub rfl rfl (by omega)) ?_
    refine s_val (v_geq (k := .i64) rfl rfl) ?_
    refine s_val (v_move (v := .bool _) rfl) ?_
    refine s_pass rfl rfl (decide_eq_true (by have := of_decide_eq_false h39; omega)) ?_
    refine s_pass rfl rfl (decide_eq_true (by have := of_decide_eq_false h39; omega)) ?_
    refine s_pass rfl rfl (decide_eq_true (by have := of_decide_eq_false h39; omega)) ?_
    refine s_pass rfl rfl (decide_eq_true (by have := of_decide_eq_false h39; omega)) ?_
    refine s_val (v_pickT (v := .bool _) rfl (decide_eq_true (by have := of_decide_eq_false h39; omega)) rfl) ?_
    refine s_nil ?_
    refine c_condTh rfl rfl rfl ?_
    refine c_exit ?_
    refine n_exit ?_
    refine n_bpast rfl ?_
    refine n_exit ?_
    refine n_exit ?_
    refine n_bhere ?_
    refine n_then ?_
    have hnone := hd.stop (by rw [List.length_drop, hBl]; have := of_decide_eq_false h39; omega)
    refine r_seq (by kernel_rfl) ?_
    refine s_val (v_idxA (len := 5) (size := 1) (k := .i64) (by kernel_rfl) rfl rfl (by decide)) ?_
    refine s_val (v_load1 (v := I (vnum t.us 0)) (by kernel_rfl) rfl .here (vrow_at t.us 0 (by decide))) ?_
    refine s_val (v_idxA (len := 5) (size := 1) (k := .i64) (by kernel_rfl) rfl rfl (by decide)) ?_
    refine s_val (v_load1 (v := I (vnum t.us 1)) (by kernel_rfl) rfl .here (vrow_at t.us 1 (by decide))) ?_
    refine s_val (v_idxA (len := 5) (size := 1) (k := .i64) (by kernel_rfl) rfl rfl (by decide)) ?_
    refine s_val (v_load1 (v := I (vnum t.us 2)) (by kernel_rfl) rfl .here (vrow_at t.us 2 (by decide))) ?_
    refine s_val (v_idxA (len := 5) (size := 1) (k := .i64) (by kernel_rfl) rfl rfl (by decide)) ?_
    refine s_val (v_load1 (v := I (vnum t.us 3)) (by kernel_rfl) rfl .here (vrow_at t.us 3 (by decide))) ?_
    refine s_val (v_idxA (len := 5) (size := 1) (k := .i64) (by kernel_rfl) rfl rfl (by decide)) ?_
    refine s_val (v_load1 (v := I (vnum t.us 4)) (by kernel_rfl) rfl .here (vrow_at t.us 4 (by decide))) ?_
    refine s_val (v_build (vs := [(0, .int .i64 _), (1, .int .i64 _), (2, .int .i64 _), (3, .int .i64 _), (4, .int .i64 _)]) (cs := (act5 t.us).cells) rfl (by kernel_rfl)) ?_
    refine s_alloc (z := zeroOf Try.prog 54) (by kernel_rfl) (fun b13 => ?_)
    refine s_storeA (m := 5) (by kernel_rfl) rfl rfl .here (by kernel_rfl) rfl (ActS.all1 _) ?_
    refine s_nil ?_
    refine c_seq ?_
    refine r_seq (by kernel_rfl) ?_
    refine s_val (v_loadA (m := 5) (by kernel_rfl) rfl .here rfl) ?_
    refine s_call (by kernel_rfl) (fun w hw => gr_FrameOf (act5 t.us) w) ?_
    refine s_val (v_move (v := .tuple _) rfl) ?_
    refine s_val (v_extract rfl rfl) ?_
    refine s_val (v_extract rfl rfl) ?_
    refine s_val (v_assign (v := S _) rfl) ?_
    refine s_val (v_assign (v := .int .i64 _) rfl) ?_
    refine s_nil ?_
    refine r_seq (by kernel_rfl) ?_
    refine s_val (v_move (v := .int .i64 _) rfl) ?_
    refine s_val (v_lss (k := .i64) rfl rfl) ?_
    refine s_val (v_move (v := .bool _) rfl) ?_
    refine s_pass rfl rfl (decide_eq_true (by omega)) ?_
    refine s_pass rfl rfl (decide_eq_true (by omega)) ?_
    refine s_val (v_pickT (v := .bool _) rfl (decide_eq_true (by omega)) rfl) ?_
    refine s_val (v_move (v := .bool _) rfl) ?_
    refine s_pass (g := true) rfl rfl rfl ?_
    refine s_pass (g := true) rfl rfl rfl ?_
    refine s_pass (g := true) rfl rfl rfl ?_
    refine s_pass (g := true) rfl rfl rfl ?_
    refine s_pass (g := true) rfl rfl rfl ?_
    refine s_val (v_pickT (v := .bool _) rfl rfl rfl) ?_
    refine s_nil ?_
    refine c_condTh rfl rfl rfl ?_
    refine c_exit ?_
    refine n_exit ?_
    refine n_bpast rfl ?_
    refine n_exit ?_
    refine n_bhere ?_
    refine n_then ?_
    refine r_seq (by kernel_rfl) ?_
    refine s_val (v_move (v := _) rfl) ?_
    refine s_val (v_move (v := .int .i64 _) rfl) ?_
    refine s_val (v_assign (v := _) rfl) ?_
    refine s_val (v_assign (v := .int .i64 _) rfl) ?_
    refine s_nil ?_
    refine c_ret ?_
    refine n_doneTF rfl (by decide) (by decide) (fun w hw => ?_)
    exact ho.done (by rw [hr]; exact hpg.broken hk5 hnone) (own_fresh (hw.sub (.cons _ (.cons _ (List.Sublist.refl _)))))
  have hin := of_decide_eq_true h39
  obtain ⟨b, hbb⟩ : ∃ b, ((r.take k0).drop (t.pos - 1))[q.1]? = some b := ⟨((r.take k0).drop (t.pos - 1))[q.1]'(by rw [List.length_drop]; omega), List.getElem?_eq_getElem _⟩
  have hbi : (k0 :: r)[t.pos + q.1]? = some b := by
    have hbb' := hbb
    rw [List.getElem?_drop, hBi _ (by omega)] at hbb'
    rw [show t.pos + q.1 = t.pos - 1 + q.1 + 1 by omega]; exact hbb'
  have hb256 : b < 256 := hbr b (List.mem_of_getElem? hbi)
  refine s_want rfl rfl h39 ?_
  refine s_val (v_move (v := S _) rfl) ?_
  refine s_want rfl rfl h39 ?_
  refine s_val (v_move (v := .int .i64 _) rfl) ?_
  refine s_want rfl rfl h39 ?_
  refine s_val (v_strIdx (by kernel_rfl) rfl rfl (by omega) hbi hb256) ?_
  refine s_want rfl rfl h39 ?_
  refine s_val (v_geq (k := .u8) rfl rfl) ?_
  refine s_val (v_pickT (v := .bool _) rfl h39 rfl) ?_
  refine s_val (v_move (v := .bool _) rfl) ?_
  refine s_splitR (s := 45) rfl (fun h45 => ?_) (fun h45 => ?_)
  · refine s_pass rfl rfl h45 ?_
    refine s_pass rfl rfl h45 ?_
    refine s_val (v_pickF (v := .bool _) rfl h45 rfl) ?_
    refine s_nil ?_
    refine c_condFh rfl rfl rfl ?_
    refine c_exit ?_
    refine n_exit ?_
    refine n_exit ?_
    refine n_bhere ?_
    refine n_then ?_
    refine c_seq ?_
    refine r_seq (by kernel_rfl) ?_
    refine s_val (v_move (v := .int .i64 _) rfl) ?_
    refine s_val (v_move (v := .int .i64 _) rfl) ?_
    refine s_val (v_sub rfl rfl (by omega)) ?_
    refine s_val (v_geq (k := .i64) rfl rfl) ?_
    refine s_val (v_move (v := .bool _) rfl) ?_
    refine s_want rfl rfl (decide_eq_false (by have := of_decide_eq_true h39; omega)) ?_
    refine s_val (v_move (v := S _) rfl) ?_
    refine s_want rfl rfl (decide_eq_false (by have := of_decide_eq_true h39; omega)) ?_
    refine s_val (v_move (v := .int .i64 _) rfl) ?_
    refine s_want rfl rfl (decide_eq_false (by have := of_decide_eq_true h39; omega)) ?_
    refine s_val (v_strIdx (by kernel_rfl) rfl rfl (by omega) hbi hb256) ?_
    refine s_want rfl rfl (decide_eq_false (by have := of_decide_eq_true h39; omega)) ?_
    refine s_val (v_geq (k := .u8) rfl rfl) ?_
    refine s_val (v_pickF (v := .bool _) rfl (decide_eq_false (by have := of_decide_eq_true h39; omega)) rfl) ?_
    refine s_nil ?_
    refine c_condFh rfl rfl h45 ?_
    refine c_skip ?_
    refine n_then ?_
    have hmf := mul_fits (a := (b : Int)) (p := 128 ^ q.1) ⟨by omega, by omega⟩ hpw.1
    have hlast := (hd.last hbb (by have := of_decide_eq_false h45; omega)).2
    have h77 : (128 : Nat) ^ 7 = 562949953421312 := by decide
    refine r_seq (by kernel_rfl) ?_
    refine s_val (v_move (v := .int .i64 _) rfl) ?_
    refine s_val (v_move (v := S _) rfl) ?_
    refine s_val (v_move (v := .int .i64 _) rfl) ?_
    refine s_val (v_strIdx (by kernel_rfl) rfl rfl (by omega) hbi hb256) ?_
    refine s_val (v_ofU8 (by kernel_rfl) rfl ⟨by omega, by omega⟩) ?_
    refine s_val (v_move (v := .int .i64 _) rfl) ?_
    refine s_val (v_mul rfl rfl (by omega)) ?_
    refine s_val (v_add rfl rfl (by omega)) ?_
    refine s_val (v_assign (v := .int .i64 _) rfl) ?_
    refine s_nil ?_
    rw [last_cast b q.2 q.1]
    refine r_seq (by kernel_rfl) ?_
    refine s_val (v_move (v := .int .i64 _) rfl) ?_
    refine s_val (v_add rfl rfl (by omega)) ?_
    refine s_val (v_assign (v := .int .i64 _) rfl) ?_
    refine s_nil ?_
    refine r_seq (by kernel_rfl) ?_
    refine s_val (v_move (v := .int .i64 _) rfl) ?_
    refine s_val (v_move (v := .int .i64 _) rfl) ?_
    refine s_val (v_quo (c := (((q.2 + b * 128 ^ q.1) / 2 : Nat) : Int)) rfl rfl (by decide) (by rw [show (((q.2 + b * 128 ^ q.1) : Nat) : Int).tdiv 2 = (((q.2 + b * 128 ^ q.1) / 2 : Nat) : Int) from tdiv_nat (q.2 + b * 128 ^ q.1) 2]; exact wr_in (by omega) (by omega))) ?_
    refine s_val (v_idxA (len := 5) (size := 1) (k := .i64) (by kernel_rfl) rfl rfl ⟨by omega, by omega⟩) ?_
    refine s_store1 (v := .int .i64 _) (by kernel_rfl) rfl rfl .here ⟨by simp only [Array.size_setIfInBounds, vrow_size]; omega, rfl⟩ rfl ?_
    refine s_nil ?_
    refine r_seq (by kernel_rfl) ?_
    refine s_val (v_move (v := .int .i64 _) rfl) ?_
    refine s_val (v_rem (c := (((q.2 + b * 128 ^ q.1) % 2 : Nat) : Int)) rfl rfl (by decide) (tmod_nat _ 2)) ?_
    refine s_val (v_eql (k := .i64) rfl rfl) ?_
    refine s_nil ?_
    refine c_condR rfl rfl (fun h88 => ?_) (fun h88 => ?_)
    · refine c_skip ?_
      refine n_bnormal ?_
      refine n_then ?_
      refine r_list (by kernel_rfl) ?_
      refine s_val (v_move (v := .int .i64 _) rfl) ?_
      refine s_val (v_add rfl rfl (by omega)) ?_
      refine s_val (v_assign (v := .int .i64 _) rfl) ?_
      refine s_end ?_
      refine n_round (s := t) ⟨t.k + 1, t.us ++ [(q.2 + b * 128 ^ q.1)], t.pos + q.1 + 1⟩ ⟨_, hpg.next hBl hk5 hd hbb (by have := of_decide_eq_false h45; omega), live8 rfl rfl rfl rfl rfl rfl (congrArg I (by push_cast; rfl)) (congrArg I (by push_cast; rfl))⟩ (fun _ hw => by rw [← vrow_set hpg.ul hk5, ← zag_even (of_decide_eq_false h88)]; exact hw) (by dsimp only; omega)
    refine r_list (by kernel_rfl) ?_
    refine s_val (v_move (v := .int .i64 _) rfl) ?_
    refine s_val (v_move (v := .int .i64 _) rfl) ?_
    refine s_val (v_neg rfl (by omega)) ?_
    refine s_val (v_quo (c := -(((q.2 + b * 128 ^ q.1) / 2 : Nat) : Int)) rfl rfl (by decide) (by rw [neg_half]; exact wr_in (by omega) (by omega))) ?_
    refine s_val (v_sub rfl rfl (by omega)) ?_
    refine s_val (v_idxA (len := 5) (size := 1) (k := .i64) (by kernel_rfl) rfl rfl ⟨by omega, by omega⟩) ?_
    refine s_store1 (v := .int .i64 _) (by kernel_rfl) rfl rfl .here ⟨by simp only [Array.size_setIfInBounds, vrow_size]; omega, rfl⟩ rfl ?_
    refine s_end ?_
    refine n_bnormal ?_
    refine n_then ?_
    refine r_list (by kernel_rfl) ?_
    refine s_val (v_move (v := .int .i64 _) rfl) ?_
    refine s_val (v_add rfl rfl (by omega)) ?_
    refine s_val (v_assign (v := .int .i64 _) rfl) ?_
    refine s_end ?_
    refine n_round (s := t) ⟨t.k + 1, t.us ++ [(q.2 + b * 128 ^ q.1)], t.pos + q.1 + 1⟩ ⟨_, hpg.next hBl hk5 hd hbb (by have := of_decide_eq_false h45; omega), live8 rfl rfl rfl rfl rfl rfl (congrArg I (by push_cast; rfl)) (congrArg I (by push_cast; rfl))⟩ (fun _ hw => by rw [← vrow_set2 (x := (((q.2 + b * 128 ^ q.1) / 2 : Nat) : Int)) hpg.ul hk5, ← zag_odd' (of_decide_eq_true h88)]; exact hw) (by dsimp only; omega)
  refine s_want rfl rfl h45 ?_
  refine s_val (v_move (v := .int .i64 _) rfl) ?_
  refine s_want rfl rfl h45 ?_
  refine s_val (v_lss (k := .i64) rfl rfl) ?_
  refine s_val (v_pickT (v := .bool _) rfl h45 rfl) ?_
  refine s_nil ?_
  refine c_cond rfl rfl (fun h48 => ?_) (fun h48 => ?_)
  · have hhi := of_decide_eq_true h45
    have hj5 := (pow_lt40 hj6).1 (of_decide_eq_true h48)
    have hmf := mul_fits (a := (b : Int) - 128) (p := 128 ^ q.1) ⟨by omega, by omega⟩ hpw.1
    refine c_skip ?_
    refine n_then ?_
    refine c_block ?_
    refine r_seq (by kernel_rfl) ?_
    refine s_val (v_move (v := .int .i64 _) rfl) ?_
    refine s_val (v_move (v := S _) rfl) ?_
    refine s_val (v_move (v := .int .i64 _) rfl) ?_
    refine s_val (v_strIdx (by kernel_rfl) rfl rfl (by omega) hbi hb256) ?_
    refine s_val (v_u8sub rfl rfl ⟨by omega, by omega⟩) ?_
    refine s_val (v_ofU8 (by kernel_rfl) rfl ⟨by omega, by omega⟩) ?_
    refine s_val (v_move (v := .int .i64 _) rfl) ?_
    refine s_val (v_mul rfl rfl (by omega)) ?_
    refine s_val (v_add rfl rfl (by omega)) ?_
    refine s_val (v_assign (v := .int .i64 _) rfl) ?_
    refine s_nil ?_
    refine r_seq (by kernel_rfl) ?_
    refine s_val (v_move (v := .int .i64 _) rfl) ?_
    refine s_val (v_mul rfl rfl (by omega)) ?_
    refine s_val (v_assign (v := .int .i64 _) rfl) ?_
    refine s_nil ?_
    refine r_list (by kernel_rfl) ?_
    refine s_val (v_move (v := .int .i64 _) rfl) ?_
    refine s_val (v_add rfl rfl (by omega)) ?_
    refine s_val (v_assign (v := .int .i64 _) rfl) ?_
    refine s_end ?_
    refine n_bnormal ?_
    refine n_round (s := q) (q.1 + 1, q.2 + (b - 128) * 128 ^ q.1) ⟨_, hd.step hbb (by omega) hb256 hj5, live10 rfl rfl rfl rfl rfl rfl (congrArg I (by push_cast; omega)) rfl (congrArg I (dig_cast (by omega))) (congrArg I (by rw [Nat.pow_succ]; push_cast; rfl))⟩ (fun _ hw => hw) (by dsimp only; omega)
  refine c_exit ?_
  refine n_exit ?_
  refine n_exit ?_
  refine n_bhere ?_
  refine n_then ?_
  refine c_seq ?_
  refine r_seq (by kernel_rfl) ?_
  refine s_val (v_move (v := .int .i64 _) rfl) ?_
  refine s_val (v_move (v := .int .i64 _) rfl) ?_
  refine s_val (v_sub rfl rfl (by omega)) ?_
  refine s_val (v_geq (k := .i64) rfl rfl) ?_
  refine s_val (v_move (v := .bool _) rfl) ?_
  refine s_want rfl rfl (decide_eq_false (by have := of_decide_eq_true h39; omega)) ?_
  refine s_val (v_move (v := S _) rfl) ?_
  refine s_want rfl rfl (decide_eq_false (by have := of_decide_eq_true h39; omega)) ?_
  refine s_val (v_move (v := .int .i64 _) rfl) ?_
  refine s_want rfl rfl (decide_eq_false (by have := of_decide_eq_true h39; omega)) ?_
  refine s_val (v_strIdx (by kernel_rfl) rfl rfl (by omega) hbi hb256) ?_
  refine s_want rfl rfl (decide_eq_false (by have := of_decide_eq_true h39; omega)) ?_
  refine s_val (v_geq (k := .u8) rfl rfl) ?_
  refine s_val (v_pickF (v := .bool _) rfl (decide_eq_false (by have := of_decide_eq_true h39; omega)) rfl) ?_
  refine s_nil ?_
  refine c_condTh rfl rfl h45 ?_
  refine c_exit ?_
  refine n_exit ?_
  refine n_bpast rfl ?_
  refine n_exit ?_
  refine n_exit ?_
  refine n_bhere ?_
  refine n_then ?_
  have hnone := hd.high hbb (by have := of_decide_eq_true h45; omega) (fun h => absurd ((pow_lt40 hj6).2 h) (of_decide_eq_false h48))
  refine r_seq (by kernel_rfl) ?_
  refine s_val (v_idxA (len := 5) (size := 1) (k := .i64) (by kernel_rfl) rfl rfl (by decide)) ?_
  refine s_val (v_load1 (v := I (vnum t.us 0)) (by kernel_rfl) rfl .here (vrow_at t.us 0 (by decide))) ?_
  refine s_val (v_idxA (len := 5) (size := 1) (k := .i64) (by kernel_rfl) rfl rfl (by decide)) ?_
  refine s_val (v_load1 (v := I (vnum t.us 1)) (by kernel_rfl) rfl .here (vrow_at t.us 1 (by decide))) ?_
  refine s_val (v_idxA (len := 5) (size := 1) (k := .i64) (by kernel_rfl) rfl rfl (by decide)) ?_
  refine s_val (v_load1 (v := I (vnum t.us 2)) (by kernel_rfl) rfl .here (vrow_at t.us 2 (by decide))) ?_
  refine s_val (v_idxA (len := 5) (size := 1) (k := .i64) (by kernel_rfl) rfl rfl (by decide)) ?_
  refine s_val (v_load1 (v := I (vnum t.us 3)) (by kernel_rfl) rfl .here (vrow_at t.us 3 (by decide))) ?_
  refine s_val (v_idxA (len := 5) (size := 1) (k := .i64) (by kernel_rfl) rfl rfl (by decide)) ?_
  refine s_val (v_load1 (v := I (vnum t.us 4)) (by kernel_rfl) rfl .here (vrow_at t.us 4 (by decide))) ?_
  refine s_val (v_build (vs := [(0, .int .i64 _), (1, .int .i64 _), (2, .int .i64 _), (3, .int .i64 _), (4, .int .i64 _)]) (cs := (act5 t.us).cells) rfl (by kernel_rfl)) ?_
  refine s_alloc (z := zeroOf Try.prog 54) (by kernel_rfl) (fun b13 => ?_)
  refine s_storeA (m := 5) (by kernel_rfl) rfl rfl .here (by kernel_rfl) rfl (ActS.all1 _) ?_
  refine s_nil ?_
  refine c_seq ?_
  refine r_seq (by kernel_rfl) ?_
  refine s_val (v_loadA (m := 5) (by kernel_rfl) rfl .here rfl) ?_
  refine s_call (by kernel_rfl) (fun w hw => gr_FrameOf (act5 t.us) w) ?_
  refine s_val (v_move (v := .tuple _) rfl) ?_
  refine s_val (v_extract rfl rfl) ?_
  refine s_val (v_extract rfl rfl) ?_
  refine s_val (v_assign (v := S _) rfl) ?_
  refine s_val (v_assign (v := .int .i64 _) rfl) ?_
  refine s_nil ?_
  refine r_seq (by kernel_rfl) ?_
  refine s_val (v_move (v := .int .i64 _) rfl) ?_
  refine s_val (v_lss (k := .i64) rfl rfl) ?_
  refine s_val (v_move (v := .bool _) rfl) ?_
  refine s_pass rfl rfl (decide_eq_true (by omega)) ?_
  refine s_pass rfl rfl (decide_eq_true (by omega)) ?_
  refine s_val (v_pickT (v := .bool _) rfl (decide_eq_true (by omega)) rfl) ?_
  refine s_val (v_move (v := .bool _) rfl) ?_
  refine s_pass (g := true) rfl rfl rfl ?_
  refine s_pass (g := true) rfl rfl rfl ?_
  refine s_pass (g := true) rfl rfl rfl ?_
  refine s_pass (g := true) rfl rfl rfl ?_
  refine s_pass (g := true) rfl rfl rfl ?_
  refine s_val (v_pickT (v := .bool _) rfl rfl rfl) ?_
  refine s_nil ?_
  refine c_condTh rfl rfl rfl ?_
  refine c_exit ?_
  refine n_exit ?_
  refine n_bpast rfl ?_
  refine n_exit ?_
  refine n_bhere ?_
  refine n_then ?_
  refine r_seq (by kernel_rfl) ?_
  refine s_val (v_move (v := _) rfl) ?_
  refine s_val (v_move (v := .int .i64 _) rfl) ?_
  refine s_val (v_assign (v := _) rfl) ?_
  refine s_val (v_assign (v := .int .i64 _) rfl) ?_
  refine s_nil ?_
  refine c_ret ?_
  refine n_doneTF rfl (by decide) (by decide) (fun w hw => ?_)
  exact ho.done (by rw [hr]; exact hpg.broken hk5 hnone) (own_fresh (hw.sub (.cons _ (.cons _ (List.Sublist.refl _)))))

end Go.Proofs.Ytmkboljfbmlebaa
/- The laws BookTells and BookRead. Condition: texts of a few million bytes at most. -/
namespace Go.Proofs.Ytmkboljfbmlebaa
open Go.RowKit
set_option linter.unusedSimpArgs false
set_option linter.unusedVariables false
set_option maxRecDepth 100000
attribute [local irreducible] cC sC nC rC qw

set_option maxHeartbeats 1000000 in
theorem law_BookTells (a : ActS) (l : List Nat) (w : World) (hb : Byt l) (hl : l.length ≤ 8388608) : Gives Try.prog 11 [.agg a.cells, S l] w (.bool true) := by
  refine gives_of Try.func11 rfl Try.ntmps11 (by simp) ?_
  refine r_seq (by kernel_rfl) ?_
  refine s_box (v := .agg _) rfl (fun b2 => ?_)
  refine s_val (v_assign (v := .bool _) rfl) ?_
  refine s_nil ?_
  refine r_seq (by kernel_rfl) ?_
  refine s_val (v_loadA (m := 5) (by kernel_rfl) rfl .here rfl) ?_
  refine s_call (by kernel_rfl) (fun w hw => g_Frame _ w) ?_
  refine s_val (v_move (v := .tuple _) rfl) ?_
  refine s_val (v_extract rfl rfl) ?_
  refine s_val (v_extract rfl rfl) ?_
  refine s_val (v_assign (v := S _) rfl) ?_
  refine s_val (v_assign (v := .int .i64 _) rfl) ?_
  refine s_nil ?_
  refine r_seq (by kernel_rfl) ?_
  refine s_val (v_loadA (m := 5) (by kernel_rfl) rfl .here rfl) ?_
  refine s_call (by kernel_rfl) (fun w hw => gr_FrameOf _ w) ?_
  refine s_val (v_move (v := .tuple _) rfl) ?_
  refine s_val (v_extract rfl rfl) ?_
  refine s_val (v_extract rfl rfl) ?_
  refine s_val (v_assign (v := S _) rfl) ?_
  refine s_val (v_assign (v := .int .i64 _) rfl) ?_
  refine s_nil ?_
  refine r_seq (by kernel_rfl) ?_
  refine s_val (v_move (v := S _) rfl) ?_
  refine s_callG (by kernel_rfl) (readF_mono _) (fun w hw => g_Read (l) w hb hl) (fun F25 v25 hF25 hR25 => ?_)
  obtain ⟨v1, rfl, hA25⟩ := hR25
  obtain ⟨a25, c25, rfl, ia25⟩ := hA25.at
  replace ia25 := ia25.mono (more_young _ _)
  refine s_val (v_move (v := .tuple _) rfl) ?_
  refine s_val (v_extract rfl rfl) ?_
  refine s_val (v_extract rfl rfl) ?_
  refine s_val (v_assign (v := .slice _ _ _) rfl) ?_
  refine s_val (v_assign (v := .int .i64 _) rfl) ?_
  refine s_nil ?_
  refine r_seq (by kernel_rfl) ?_
  refine s_val (v_move (v := S _) rfl) ?_
  refine s_callG (by kernel_rfl) (readF_mono _) (fun w hw => gr_ReadBook l w hb hl) (fun F30 v30 hF30 hR30 => ?_)
  obtain ⟨v1, rfl, hA30⟩ := hR30
  obtain ⟨a30, c30, rfl, ia30⟩ := hA30.at
  replace ia30 := ia30.mono (more_young _ _)
  refine s_val (v_move (v := .tuple _) rfl) ?_
  refine s_val (v_extract rfl rfl) ?_
  refine s_val (v_extract rfl rfl) ?_
  refine s_val (v_assign (v := .slice _ _ _) rfl) ?_
  refine s_val (v_assign (v := .int .i64 _) rfl) ?_
  refine s_nil ?_
  refine d_seq (by kernel_rfl) (by kernel_rfl) (fun w hw => hw.drew) (by kernel_rfl) ?_
  refine q_val (v_move (v := S _) rfl) ?_
  refine q_val (v_move (v := S _) rfl) ?_
  refine q_val (v_strEq rfl rfl (fText_byt _) (fText_byt _)) ?_
  refine q_val (v_move (v := .bool _) rfl) ?_
  refine q_want rfl rfl (decide_eq_true rfl) ?_
  refine q_val (v_move (v := .int .i64 _) rfl) ?_
  refine q_want rfl rfl (decide_eq_true rfl) ?_
  refine q_val (v_move (v := .int .i64 _) rfl) ?_
  refine q_want rfl rfl (decide_eq_true rfl) ?_
  refine q_val (v_eql (k := .i64) rfl rfl) ?_
  refine q_val (v_pickT (v := .bool _) rfl (decide_eq_true rfl) rfl) ?_
  refine q_val (v_move (v := .bool _) rfl) ?_
  refine q_want rfl rfl (decide_eq_true rfl) ?_
  refine q_val (v_loadA (m := 5) (by kernel_rfl) rfl .here rfl) ?_
  refine q_want rfl rfl (decide_eq_true rfl) ?_
  refine q_call (by kernel_rfl) (fun w hw => g_Good4 _ w) ?_
  refine q_want rfl rfl (decide_eq_true rfl) ?_
  refine q_val (v_loadA (m := 5) (by kernel_rfl) rfl .here rfl) ?_
  refine q_want rfl rfl (decide_eq_true rfl) ?_
  refine q_call (by kernel_rfl) (fun w hw => gr_IsNoted _ w) ?_
  refine q_want rfl rfl (decide_eq_true rfl) ?_
  refine q_val (v_eqlB (by kernel_rfl) rfl rfl) ?_
  refine q_val (v_pickT (v := .bool _) rfl (decide_eq_true rfl) rfl) ?_
  refine q_val (v_move (v := .bool _) rfl) ?_
  refine q_want rfl rfl (beq_self_eq_true _) ?_
  refine q_val (v_move (v := .slice _ _ _) rfl) ?_
  refine q_want rfl rfl (beq_self_eq_true _) ?_
  refine q_val (v_move (v := .slice _ _ _) rfl) ?_
  refine q_want rfl rfl (beq_self_eq_true _) ?_
  refine q_call (by kernel_rfl) (fun w hw => gl_sameActs a25 a30 c25 c30 _ _ w ((ia25.mono hF30).at hw) (ia30.at hw) (by have := (readM_bytes l).1.length_le; have := reads_len l; omega)) ?_
  refine q_val (v_pickT (v := .bool _) rfl (beq_self_eq_true _) rfl) ?_
  refine q_val (v_move (v := .bool _) rfl) ?_
  refine q_want rfl rfl (decide_eq_true rfl) ?_
  refine q_val (v_move (v := .int .i64 _) rfl) ?_
  refine q_want rfl rfl (decide_eq_true rfl) ?_
  refine q_val (v_move (v := .int .i64 _) rfl) ?_
  refine q_want rfl rfl (decide_eq_true rfl) ?_
  refine q_val (v_eql (k := .i64) rfl rfl) ?_
  refine q_val (v_pickT (v := .bool _) rfl (decide_eq_true rfl) rfl) ?_
  refine q_val (v_move (v := .bool _) rfl) ?_
  refine q_want rfl rfl (decide_eq_true rfl) ?_
  refine q_call (by kernel_rfl) (fun w hw => gl_books w) ?_
  refine q_val (v_pickT (v := .bool _) rfl (decide_eq_true rfl) rfl) ?_
  refine q_val (v_assign (v := .bool _) rfl) ?_
  refine q_nil ?_
  refine c_ret ?_
  refine n_done rfl (by decide) (Eq.trans (b := .bool _) rfl (congrArg Value.bool ?_))
  rfl

set_option maxHeartbeats 1000000 in
theorem law_BookRead (l : List Nat) (w : World) (hb : Byt l) (hl : l.length ≤ 8388608) : Gives Try.prog 13 [S l] w (.bool true) := by
  obtain ⟨hpre, hall⟩ := readM_bytes l
  have hrl := reads_len l
  have hpl := hpre.length_le
  refine gives_of Try.func13 rfl Try.ntmps13 (by simp) ?_
  refine r_seq (by kernel_rfl) ?_
  refine s_val (v_assign (v := .bool _) rfl) ?_
  refine s_nil ?_
  refine r_seq (by kernel_rfl) ?_
  refine s_val (v_move (v := S _) rfl) ?_
  refine s_callG (by kernel_rfl) (readF_mono _) (fun w hw => g_Read (l) w hb hl) (fun F12 v12 hF12 hR12 => ?_)
  obtain ⟨v1, rfl, hA12⟩ := hR12
  obtain ⟨a12, c12, rfl, ia12⟩ := hA12.at
  replace ia12 := ia12.mono (more_young _ _)
  refine s_val (v_move (v := .tuple _) rfl) ?_
  refine s_val (v_extract rfl rfl) ?_
  refine s_val (v_extract rfl rfl) ?_
  refine s_val (v_assign (v := .slice _ _ _) rfl) ?_
  refine s_val (v_assign (v := .int .i64 _) rfl) ?_
  refine s_nil ?_
  refine r_seq (by kernel_rfl) ?_
  refine s_val (v_assign (v := S []) rfl) ?_
  refine s_nil ?_
  refine c_seq ?_
  refine r_seq (by kernel_rfl) ?_
  refine s_val (v_move (v := .slice _ _ _) rfl) ?_
  refine s_val (v_lenS (T := 58) (m := 5) (by kernel_rfl) rfl rfl) ?_
  refine s_val (v_move (v := .int .i64 _) rfl) ?_
  refine s_nil ?_
  refine c_block ?_
  refine c_loop (σ := Nat) (fun (k : Nat) f => ∃ g, (k ≤ (readM l).length) ∧ f = (upd (upd (upd (upd (upd (upd g 0 (S l)) 4 (I (bytesOf (readM l)).length)) 5 (S (bytesOf ((readM l).take k)))) 15 (.slice a12 (readM l).length c12)) 16 (I (readM l).length)) 17 (I k))) (fun (k : Nat) => Has w F12 []) (fun (k : Nat) => (readM l).length - k) 0 ⟨_, Nat.zero_le _, live6 rfl rfl rfl rfl rfl rfl⟩ (fun w hw => hw) ?_
  rintro k _ ⟨g, hkl, rfl⟩
  refine r_seq (by kernel_rfl) ?_
  refine s_val (v_lss (k := .i64) rfl rfl) ?_
  refine s_nil ?_
  refine c_seq ?_
  refine c_condR rfl rfl (fun h18 => ?_) (fun h18 => ?_)
  · have hk0 := of_decide_eq_false h18
    obtain rfl : k = (readM l).length := by omega
    rw [List.take_of_length_le (Nat.le_refl _)]
    refine c_exit ?_
    refine n_exit ?_
    refine n_exit ?_
    refine n_bhere ?_
    refine n_then ?_
    refine r_seq (by kernel_rfl) ?_
    refine s_val (v_move (v := .int .i64 _) rfl) ?_
    refine s_val (v_geq (k := .i64) rfl rfl) ?_
    refine s_val (v_move (v := .bool _) rfl) ?_
    refine s_want rfl rfl (decide_eq_true (by omega)) ?_
    refine s_val (v_move (v := .int .i64 _) rfl) ?_
    refine s_want rfl rfl (decide_eq_true (by omega)) ?_
    refine s_val (v_move (v := S _) rfl) ?_
    refine s_want rfl rfl (decide_eq_true (by omega)) ?_
    refine s_val (v_strLen (by kernel_rfl) rfl rfl) ?_
    refine s_want rfl rfl (decide_eq_true (by omega)) ?_
    refine s_val (v_leq (k := .i64) rfl rfl) ?_
    refine s_val (v_pickT (v := .bool _) rfl (decide_eq_true (by omega)) rfl) ?_
    refine s_val (v_move (v := .bool _) rfl) ?_
    refine s_want rfl rfl (decide_eq_true (by omega)) ?_
    refine s_val (v_move (v := S _) rfl) ?_
    refine s_want rfl rfl (decide_eq_true (by omega)) ?_
    refine s_val (v_move (v := S _) rfl) ?_
    refine s_want rfl rfl (decide_eq_true (by omega)) ?_
    refine s_val (v_move (v := .int .i64 _) rfl) ?_
    refine s_want rfl rfl (decide_eq_true (by omega)) ?_
    refine s_val (v_strHi (by kernel_rfl) rfl rfl ⟨by omega, by omega⟩) ?_
    refine s_want rfl rfl (decide_eq_true (by omega)) ?_
    refine s_val (v_strEq rfl rfl (bytes_byt hall) (hb.take _)) ?_
    refine s_val (v_pickT (v := .bool _) rfl (decide_eq_true (by omega)) rfl) ?_
    refine s_val (v_move (v := .bool _) rfl) ?_
    refine s_want rfl rfl (decide_eq_true (List.prefix_iff_eq_take.1 hpre)) ?_
    refine s_call (by kernel_rfl) (fun w hw => gk_books w) ?_
    refine s_val (v_pickT (v := .bool _) rfl (decide_eq_true (List.prefix_iff_eq_take.1 hpre)) rfl) ?_
    refine s_val (v_assign (v := .bool _) rfl) ?_
    refine s_nil ?_
    refine c_ret ?_
    refine n_done rfl (by decide) (Eq.trans (b := .bool _) rfl (congrArg Value.bool ?_))
    rfl
  have hk0 := of_decide_eq_true h18
  obtain ⟨b, o, x, ha12, hxj, hcx⟩ := ia12.get (j := k) (by omega)
  have hnx := hall x (List.mem_of_getElem? hxj)
  have hft : fText x = frameOf x := by simp [fText, hnx]
  have hbt := bytes_take hxj
  have hbm := bytes_mono (readM l) (show k + 1 ≤ (readM l).length by omega)
  rw [List.take_of_length_le (Nat.le_refl _), hbt, List.length_append] at hbm
  refine c_skip ?_
  refine n_then ?_
  refine c_seq ?_
  refine c_block ?_
  refine r_seq (by kernel_rfl) ?_
  refine s_val (v_idxS (size := 5) (k := .i64) (by kernel_rfl) (congrArg (fun a => Value.slice a (readM l).length c12) ha12) rfl ⟨by omega, by omega⟩) ?_
  refine s_val (v_loadNo (cs := x.cells) (m := 5) (by kernel_rfl) rfl rfl (by simpa using hcx)) ?_
  refine s_alloc (z := zeroOf Try.prog 54) (by kernel_rfl) (fun b7 => ?_)
  refine s_storeA (m := 5) (by kernel_rfl) rfl rfl .here (by kernel_rfl) rfl (ActS.all1 _) ?_
  refine s_nil ?_
  refine r_seq (by kernel_rfl) ?_
  refine s_val (v_loadA (m := 5) (by kernel_rfl) rfl .here rfl) ?_
  refine s_call (by kernel_rfl) (fun w hw => g_Frame _ w) ?_
  refine s_val (v_move (v := .tuple _) rfl) ?_
  refine s_val (v_extract rfl rfl) ?_
  refine s_val (v_extract rfl rfl) ?_
  refine s_val (v_assign (v := S _) rfl) ?_
  refine s_val (v_assign (v := .int .i64 _) rfl) ?_
  refine s_nil ?_
  refine c_seq ?_
  refine r_seq (by kernel_rfl) ?_
  refine s_val (v_move (v := .int .i64 _) rfl) ?_
  refine s_val (v_neq (k := .i64) rfl rfl) ?_
  refine s_nil ?_
  refine c_condFh rfl rfl (congrArg not (decide_eq_true (by simp [fErr, hnx]))) ?_
  refine c_skip ?_
  refine n_then ?_
  refine r_list (by kernel_rfl) ?_
  refine s_val (v_move (v := S _) rfl) ?_
  refine s_val (v_move (v := S _) rfl) ?_
  refine s_val (v_strAdd rfl rfl (by rw [hft]; omega)) ?_
  refine s_val (v_assign (v := S _) rfl) ?_
  refine s_end ?_
  refine n_bnormal ?_
  refine n_then ?_
  refine r_list (by kernel_rfl) ?_
  refine s_val (v_add rfl rfl (by omega)) ?_
  refine s_val (v_move (v := .int .i64 _) rfl) ?_
  refine s_end ?_
  refine n_round (k + 1) ⟨_, (by omega), live6 rfl rfl (congrArg S (by rw [hbt, hft])) rfl rfl rfl⟩ (fun _ hw => hw.tail) (by omega)

end Go.Proofs.Ytmkboljfbmlebaa
/- Rows of numbers that come in as arguments. No condition. -/
namespace Go.Proofs.Ytmkboljfbmlebaa
open Go.RowKit
set_option linter.unusedSimpArgs false
set_option linter.unusedVariables false

section
variable {Hh : Type} {enc : TypeId × Value → Hh} {P : Program} {w : World} {base : Nat} {spare : Nat → Bool} {held : Bool}
theorem open_row {T : TypeId} (hB : flatB P 4 T 4 = true) {fuel : Nat} {cs : List Value} {x : DataW Hh × List MemPlace} (hx : DataW.trod enc P w base spare held fuel T cs = some x) : ∃ r : Int → Int, cs.toArray = rowA r := by
  obtain ⟨hl, hI⟩ := read_flat 4 T 4 hB _ _ _ hx
  match cs, hl with
  | [c0, c1, c2, c3], _ =>
    refine ⟨fun i => intV ([c0, c1, c2, c3].getD i.toNat undef), ?_⟩
    have e0 := intV_of (hI c0 (by simp))
    have e1 := intV_of (hI c1 (by simp))
    have e2 := intV_of (hI c2 (by simp))
    have e3 := intV_of (hI c3 (by simp))
    have : rowA (fun i => intV ([c0, c1, c2, c3].getD i.toNat undef)) = #[I (intV c0), I (intV c1), I (intV c2), I (intV c3)] := rfl
    rw [this, e0, e1, e2, e3]
end
end Go.Proofs.Ytmkboljfbmlebaa
/- Rows of numbers, acts and lists of acts that come in as arguments. No condition. -/
namespace Go.Proofs.Ytmkboljfbmlebaa
open Go.RowKit
set_option linter.unusedSimpArgs false
set_option linter.unusedVariables false

section
variable {Hh : Type} {enc : TypeId × Value → Hh} {P : Program} {w : World} {base : Nat} {spare : Nat → Bool} {held : Bool}
theorem open_act {T : TypeId} (hB : flatB P 4 T 5 = true) {fuel : Nat} {cs : List Value} {x : DataW Hh × List MemPlace} (hx : DataW.trod enc P w base spare held fuel T cs = some x) : ∃ a : ActS, cs.toArray = a.cells := by
  obtain ⟨hl, hI⟩ := read_flat 4 T 5 hB _ _ _ hx
  match cs, hl with
  | [c0, c1, c2, c3, c4], _ =>
    refine ⟨⟨intV c0, intV c1, intV c2, intV c3, intV c4⟩, ?_⟩
    have e0 := intV_of (hI c0 (by simp))
    have e1 := intV_of (hI c1 (by simp))
    have e2 := intV_of (hI c2 (by simp))
    have e3 := intV_of (hI c3 (by simp))
    have e4 := intV_of (hI c4 (by simp))
    simp only [ActS.cells]
    rw [e0, e1, e2, e3, e4]
theorem acts_of_slice {e : TypeId} {a : Addr} {len m : Nat} (hm : len ≤ m) (hc : P.cellsOf e = 5) (hf : flatB P 4 e 5 = true) {n : Nat} {D : Nat → DataW Hh} {Pl : Nat → List MemPlace}
    (h : ∀ i, i < m → ∃ cs', w.cells? base (a.add (i * P.cellsOf e)) (P.cellsOf e) = some cs' ∧ DataW.trod enc P w base spare held n e cs' = some (D i, Pl i)) : ∃ xs : List ActS, xs.length = len ∧ ActsAt (At w) (some a) xs := by
  have h' : ∀ i, i < len → ∃ p : ActS, ∀ (k : Nat) (v : Value), p.cells[k]? = some v → w.cell? (a.add (i * 5 + k)) = some v := by
    intro i hi
    obtain ⟨cs', h1, h2⟩ := h i (by omega)
    rw [hc] at h1
    obtain ⟨hl, hI⟩ := read_flat 4 e 5 hf _ _ _ h2
    obtain ⟨_, _, hcell⟩ := World.cells?_some h1
    match cs', hl with
    | [c0, c1, c2, c3, c4], _ =>
      refine ⟨⟨intV c0, intV c1, intV c2, intV c3, intV c4⟩, fun k v hv => ?_⟩
      have e0 := intV_of (hI c0 (by simp))
      have e1 := intV_of (hI c1 (by simp))
      have e2 := intV_of (hI c2 (by simp))
      have e3 := intV_of (hI c3 (by simp))
      have e4 := intV_of (hI c4 (by simp))
      simp only [ActS.cells, e0, e1, e2, e3, e4] at hv
      have hk : k < 5 := by
        rcases Nat.lt_or_ge k 5 with h | h
        · exact h
        · rw [Array.getElem?_eq_none (by simpa using h)] at hv; cases hv
      have := hcell k hk
      rw [Deep.add_add] at this
      rw [this]
      simpa using hv
  by_cases h0 : len = 0
  · exact ⟨[], by rw [h0]; rfl, .inl rfl⟩
  have hsp : a.spot = none := by
    obtain ⟨p, hp⟩ := h' 0 (by omega)
    have := hp 0 (I p.kind) rfl
    simpa [Addr.add] using World.cell?_spot this
  obtain ⟨b, o, sp⟩ := a
  simp at hsp
  subst hsp
  have hch : ∀ i, ∃ p : ActS, i < len → ∀ (k : Nat) (v : Value), p.cells[k]? = some v → w.cell? ⟨b, o + i * 5 + k, none⟩ = some v := by
    intro i
    by_cases hi : i < len
    · obtain ⟨p, hp⟩ := h' i hi
      refine ⟨p, fun _ k v hv => ?_⟩
      have := hp k v hv
      rw [add_off] at this
      rw [Nat.add_assoc]; exact this
    · exact ⟨⟨0, 0, 0, 0, 0⟩, fun hh => absurd hh hi⟩
  refine ⟨(List.range len).map fun i => Classical.choose (hch i), by simp, .inr ⟨b, o, rfl, fun j p hj k v hv => ?_⟩⟩
  have hjl : j < len := by
    have := (List.getElem?_eq_some_iff.1 hj).1
    simpa using this
  have : p = Classical.choose (hch j) := by
    rw [List.getElem?_map, List.getElem?_range hjl] at hj
    simpa using hj.symm
  subst this
  exact Classical.choose_spec (hch j) hjl k v hv
def actsB (P : Program) (T : TypeId) : Bool := match P.underlying T with
  | some (.slice e) => Nat.beq (P.cellsOf e) 5 && flatB P 4 e 5
  | _ => false
theorem open_acts {T : TypeId} (hB : actsB P T = true) {fuel : Nat} {cs : List Value} {x : DataW Hh × List MemPlace} (hx : DataW.trod enc P w base spare held fuel T cs = some x) :
    ∃ (a : Option Addr) (c : Nat) (xs : List ActS), cs = [.slice a xs.length c] ∧ ActsAt (At w) a xs ∧ xs.length ≤ c ∧ c ≤ maxLen := by
  unfold actsB at hB
  split at hB
  · rename_i e hue
    simp only [Bool.and_eq_true] at hB
    obtain ⟨he5, hfe⟩ := hB
    have he5 := Nat.eq_of_beq_eq_true he5
    rcases Deep.open_slice hue hx with ⟨hcs, _⟩ | ⟨a, len, cap, mm, n, D, Pl, hcs, _, hlc, hcm, hmm, _, hel⟩
    · exact ⟨none, 0, [], hcs, .inl rfl, Nat.le_refl _, Nat.zero_le _⟩
    · obtain ⟨xs, hl, hxs⟩ := acts_of_slice (len := len) (by rw [hmm]; split <;> omega) he5 hfe hel
      subst hl
      exact ⟨some a, cap, xs, hcs, hxs, hlc, hcm⟩
  · cases hB
theorem open_actsW {T : TypeId} (hB : actsB P T = true) (hby0 : (match P.underlying T with | some (.slice e) => Nat.beq (P.bytesOf e) 40 | _ => false) = true) {fuel : Nat} {cs : List Value} {x : DataW Hh × List MemPlace} (hx : DataW.trod enc P w base spare held fuel T cs = some x) :
    ∃ (a : Option Addr) (c : Nat) (xs : List ActS), cs = [.slice a xs.length c] ∧ ActsAt (At w) a xs ∧ xs.length ≤ c ∧ c ≤ maxLen ∧ (xs.length = 0 ∨ ∃ m ∈ DataW.weights P T x.1, xs.length * 40 ≤ m) := by
  unfold actsB at hB
  split at hB
  · rename_i e hue
    rw [hue] at hby0
    have hby : P.bytesOf e = 40 := Nat.eq_of_beq_eq_true hby0
    simp only [Bool.and_eq_true] at hB
    obtain ⟨he5, hfe⟩ := hB
    have he5 := Nat.eq_of_beq_eq_true he5
    rcases Deep.open_slice hue hx with ⟨hcs, _⟩ | ⟨a, len, cap, mm, n, D, Pl, hcs, _, hlc, hcm, hmm, hxd, hel⟩
    · exact ⟨none, 0, [], hcs, .inl rfl, Nat.le_refl _, Nat.zero_le _, .inl rfl⟩
    · obtain ⟨xs, hl, hxs⟩ := acts_of_slice (len := len) (by rw [hmm]; split <;> omega) he5 hfe hel
      subst hl
      refine ⟨some a, cap, xs, hcs, hxs, hlc, hcm, .inr ⟨mm * 40, ?_, Nat.mul_le_mul_right _ (by rw [hmm]; split <;> omega)⟩⟩
      rw [hxd]
      simp only [DataW.weights, hue, hby, List.length_map, List.length_range]
      rw [show xs.length + (mm - xs.length) = mm by rw [hmm]; split <;> omega]
      exact List.mem_cons_self
  · cases hB
end
end Go.Proofs.Ytmkboljfbmlebaa
