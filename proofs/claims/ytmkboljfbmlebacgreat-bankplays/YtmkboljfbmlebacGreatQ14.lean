/- What the laws of this place stand on, part 14. Each part names its own conditions in what it states. -/
import Derived.Test.YtmkboljfbmlebacGreatQ13
namespace Go.Proofs.YtmkboljfbmlebacGreat
open Go.RowKit
set_option linter.unusedSimpArgs false
set_option linter.unusedVariables false
set_option maxRecDepth 100000
attribute [local irreducible] cC sC nC rC qw
theorem g_list (a : ActS) (w : World) : Gives Tryz.prog 46 [.agg a.cells] w (.agg a.cells) := by
 refine gives_of Tryz.func46 rfl Tryz.ntmps46 (by simp) (r_seq (by kernel_rfl) (s_box (v := .agg _) rfl (fun b1 => ?_)))
 refine s_alloc (z := .agg zeroA.cells) (by kernel_rfl) (fun b2 => ?_)
 refine s_nil (r_seq (by kernel_rfl) (s_val (v_fd 0 (by kernel_rfl) rfl) (s_val (v_ldI (by kernel_rfl) rfl (.there .here) rfl) (s_val (v_fd 1 (by kernel_rfl) rfl) (s_val (v_ldI (by kernel_rfl) rfl (.there .here) rfl) (s_val (v_fd 2 (by kernel_rfl) rfl) (s_val (v_ldI (by kernel_rfl) rfl (.there .here) rfl) (s_val (v_fd 3 (by kernel_rfl) rfl) (s_val (v_ldI (by kernel_rfl) rfl (.there .here) rfl) (s_val (v_fd 4 (by kernel_rfl) rfl) (s_val (v_ldI (by kernel_rfl) rfl (.there .here) rfl) (s_val (v_build (vs := [(0, .int .i64 _), (1, .int .i64 _), (2, .int .i64 _), (3, .int .i64 _), (4, .int .i64 _)]) (cs := a.cells) rfl (by kernel_rfl)) (s_storeA (m := 5) (by kernel_rfl) rfl rfl .here rfl rfl (ActS.all1 _) (s_nil (c_ret (n_doneC (m := 5) rfl (by decide) rfl (by kernel_rfl) .here rfl (congrArg Value.agg ?_)))))))))))))))))
 rfl
theorem g_Good4 (a : ActS) (w : World) : Gives Tryz.prog 45 [.agg a.cells] w (.bool (noted a)) := by
 refine gives_of Tryz.func45 rfl Tryz.ntmps45 (by simp) (r_seq (by kernel_rfl) (s_box (v := .agg _) rfl (fun b1 => ?_)))
 refine s_val (v_asB rfl) (s_nil (c_seq (r_seq (by kernel_rfl) (s_val (v_loadA (m := 5) (by kernel_rfl) rfl .here rfl) (s_call (by kernel_rfl) (fun w hw => g_list _ w) (s_val (v_mvI rfl) (s_nil (c_block (c_rounds 6 (r_succ (r_seq (by kernel_rfl) (s_val (v_lsI rfl rfl) (s_nil (c_seq (c_condTh rfl rfl rfl (c_skip (n_then (c_seq (c_block ?_)))))))))))))))))))
 refine r_seq (by kernel_rfl) (s_val (v_indexS (len := 5) (t := 3) (m := 1) (k := .i64) (v := I a.kind) (by kernel_rfl) (by kernel_rfl) rfl rfl (by decide) rfl) (s_val (v_asI rfl) (s_nil (r_seq (by kernel_rfl) (s_val (v_mvI rfl) (s_val (v_lsI rfl rfl) (s_val (v_mvB rfl) (s_split (s := 12) rfl (fun h12 => ?_) (fun h12 => ?_)))))))))
 · refine s_pass rfl rfl h12 (s_pass rfl rfl h12 (s_val (v_pickT (v := .bool _) rfl h12 rfl) (s_nil (c_condTh rfl rfl rfl (r_seq (by kernel_rfl) (s_val (v_asB rfl) (s_nil (c_ret (n_bret (n_ret (n_ret (n_bret (n_ret (n_dnB rfl (by decide) rfl ?_))))))))))))))
   symm
   rw [Bool.eq_false_iff]
   intro hno
   obtain ⟨q1, q2, q3, q4, q5⟩ := noted_all hno
   rw [notedI_iff] at q1 q2 q3 q4 q5
   simp only [decide_eq_true_eq, decide_eq_false_iff_not] at *
   omega
 refine s_want rfl rfl h12 (s_val (v_mvI rfl) (s_want rfl rfl h12 (s_val (v_gtr (k := .i64) rfl rfl) (s_val (v_pickF (v := .bool _) rfl h12 rfl) (s_nil (c_cond rfl rfl (fun h15 => ?_) (fun h15 => ?_)))))))
 · refine r_seq (by kernel_rfl) (s_val (v_asB rfl) (s_nil (c_ret (n_bret (n_ret (n_ret (n_bret (n_ret (n_dnB rfl (by decide) rfl ?_)))))))))
   symm
   rw [Bool.eq_false_iff]
   intro hno
   obtain ⟨q1, q2, q3, q4, q5⟩ := noted_all hno
   rw [notedI_iff] at q1 q2 q3 q4 q5
   simp only [decide_eq_true_eq, decide_eq_false_iff_not] at *
   omega
 refine c_skip (n_bnormal (n_then (r_list (by kernel_rfl) (s_val (v_addL (c := 1) rfl rfl (by decide) (by decide)) (s_val (v_mvI rfl) (s_end (n_thenR (r_succ (r_seq (by kernel_rfl) (s_val (v_lsI rfl rfl) (s_nil (c_seq (c_condTh rfl rfl rfl (c_skip (n_then (c_seq (c_block (r_seq (by kernel_rfl) (s_val (v_indexS (len := 5) (t := 3) (m := 1) (k := .i64) (v := I a.a) (by kernel_rfl) (by kernel_rfl) rfl rfl (by decide) rfl) ?_)))))))))))))))))))
 refine s_val (v_asI rfl) (s_nil (r_seq (by kernel_rfl) (s_val (v_mvI rfl) (s_val (v_lsI rfl rfl) (s_val (v_mvB rfl) (s_split (s := 12) rfl (fun h12 => ?_) (fun h12 => ?_)))))))
 · refine s_pass rfl rfl h12 (s_pass rfl rfl h12 (s_val (v_pickT (v := .bool _) rfl h12 rfl) (s_nil (c_condTh rfl rfl rfl (r_seq (by kernel_rfl) (s_val (v_asB rfl) (s_nil (c_ret (n_bret (n_ret (n_ret (n_bret (n_ret (n_dnB rfl (by decide) rfl ?_))))))))))))))
   symm
   rw [Bool.eq_false_iff]
   intro hno
   obtain ⟨q1, q2, q3, q4, q5⟩ := noted_all hno
   rw [notedI_iff] at q1 q2 q3 q4 q5
   simp only [decide_eq_true_eq, decide_eq_false_iff_not] at *
   omega
 refine s_want rfl rfl h12 (s_val (v_mvI rfl) (s_want rfl rfl h12 (s_val (v_gtr (k := .i64) rfl rfl) (s_val (v_pickF (v := .bool _) rfl h12 rfl) (s_nil (c_cond rfl rfl (fun h15 => ?_) (fun h15 => ?_)))))))
 · refine r_seq (by kernel_rfl) (s_val (v_asB rfl) (s_nil (c_ret (n_bret (n_ret (n_ret (n_bret (n_ret (n_dnB rfl (by decide) rfl ?_)))))))))
   symm
   rw [Bool.eq_false_iff]
   intro hno
   obtain ⟨q1, q2, q3, q4, q5⟩ := noted_all hno
   rw [notedI_iff] at q1 q2 q3 q4 q5
   simp only [decide_eq_true_eq, decide_eq_false_iff_not] at *
   omega
 refine c_skip (n_bnormal (n_then (r_list (by kernel_rfl) (s_val (v_addL (c := 2) rfl rfl (by decide) (by decide)) (s_val (v_mvI rfl) (s_end (n_thenR (r_succ (r_seq (by kernel_rfl) (s_val (v_lsI rfl rfl) (s_nil (c_seq (c_condTh rfl rfl rfl (c_skip (n_then (c_seq (c_block (r_seq (by kernel_rfl) (s_val (v_indexS (len := 5) (t := 3) (m := 1) (k := .i64) (v := I a.b) (by kernel_rfl) (by kernel_rfl) rfl rfl (by decide) rfl) ?_)))))))))))))))))))
 refine s_val (v_asI rfl) (s_nil (r_seq (by kernel_rfl) (s_val (v_mvI rfl) (s_val (v_lsI rfl rfl) (s_val (v_mvB rfl) (s_split (s := 12) rfl (fun h12 => ?_) (fun h12 => ?_)))))))
 · refine s_pass rfl rfl h12 (s_pass rfl rfl h12 (s_val (v_pickT (v := .bool _) rfl h12 rfl) (s_nil (c_condTh rfl rfl rfl (r_seq (by kernel_rfl) (s_val (v_asB rfl) (s_nil (c_ret (n_bret (n_ret (n_ret (n_bret (n_ret (n_dnB rfl (by decide) rfl ?_))))))))))))))
   symm
   rw [Bool.eq_false_iff]
   intro hno
   obtain ⟨q1, q2, q3, q4, q5⟩ := noted_all hno
   rw [notedI_iff] at q1 q2 q3 q4 q5
   simp only [decide_eq_true_eq, decide_eq_false_iff_not] at *
   omega
 refine s_want rfl rfl h12 (s_val (v_mvI rfl) (s_want rfl rfl h12 (s_val (v_gtr (k := .i64) rfl rfl) (s_val (v_pickF (v := .bool _) rfl h12 rfl) (s_nil (c_cond rfl rfl (fun h15 => ?_) (fun h15 => ?_)))))))
 · refine r_seq (by kernel_rfl) (s_val (v_asB rfl) (s_nil (c_ret (n_bret (n_ret (n_ret (n_bret (n_ret (n_dnB rfl (by decide) rfl ?_)))))))))
   symm
   rw [Bool.eq_false_iff]
   intro hno
   obtain ⟨q1, q2, q3, q4, q5⟩ := noted_all hno
   rw [notedI_iff] at q1 q2 q3 q4 q5
   simp only [decide_eq_true_eq, decide_eq_false_iff_not] at *
   omega
 refine c_skip (n_bnormal (n_then (r_list (by kernel_rfl) (s_val (v_addL (c := 3) rfl rfl (by decide) (by decide)) (s_val (v_mvI rfl) (s_end (n_thenR (r_succ (r_seq (by kernel_rfl) (s_val (v_lsI rfl rfl) (s_nil (c_seq (c_condTh rfl rfl rfl (c_skip (n_then (c_seq (c_block (r_seq (by kernel_rfl) (s_val (v_indexS (len := 5) (t := 3) (m := 1) (k := .i64) (v := I a.c) (by kernel_rfl) (by kernel_rfl) rfl rfl (by decide) rfl) ?_)))))))))))))))))))
 refine s_val (v_asI rfl) (s_nil (r_seq (by kernel_rfl) (s_val (v_mvI rfl) (s_val (v_lsI rfl rfl) (s_val (v_mvB rfl) (s_split (s := 12) rfl (fun h12 => ?_) (fun h12 => ?_)))))))
 · refine s_pass rfl rfl h12 (s_pass rfl rfl h12 (s_val (v_pickT (v := .bool _) rfl h12 rfl) (s_nil (c_condTh rfl rfl rfl (r_seq (by kernel_rfl) (s_val (v_asB rfl) (s_nil (c_ret (n_bret (n_ret (n_ret (n_bret (n_ret (n_dnB rfl (by decide) rfl ?_))))))))))))))
   symm
   rw [Bool.eq_false_iff]
   intro hno
   obtain ⟨q1, q2, q3, q4, q5⟩ := noted_all hno
   rw [notedI_iff] at q1 q2 q3 q4 q5
   simp only [decide_eq_true_eq, decide_eq_false_iff_not] at *
   omega
 refine s_want rfl rfl h12 (s_val (v_mvI rfl) (s_want rfl rfl h12 (s_val (v_gtr (k := .i64) rfl rfl) (s_val (v_pickF (v := .bool _) rfl h12 rfl) (s_nil (c_cond rfl rfl (fun h15 => ?_) (fun h15 => ?_)))))))
 · refine r_seq (by kernel_rfl) (s_val (v_asB rfl) (s_nil (c_ret (n_bret (n_ret (n_ret (n_bret (n_ret (n_dnB rfl (by decide) rfl ?_)))))))))
   symm
   rw [Bool.eq_false_iff]
   intro hno
   obtain ⟨q1, q2, q3, q4, q5⟩ := noted_all hno
   rw [notedI_iff] at q1 q2 q3 q4 q5
   simp only [decide_eq_true_eq, decide_eq_false_iff_not] at *
   omega
 refine c_skip (n_bnormal (n_then (r_list (by kernel_rfl) (s_val (v_addL (c := 4) rfl rfl (by decide) (by decide)) (s_val (v_mvI rfl) (s_end (n_thenR (r_succ (r_seq (by kernel_rfl) (s_val (v_lsI rfl rfl) (s_nil (c_seq (c_condTh rfl rfl rfl (c_skip (n_then (c_seq (c_block (r_seq (by kernel_rfl) (s_val (v_indexS (len := 5) (t := 3) (m := 1) (k := .i64) (v := I a.n) (by kernel_rfl) (by kernel_rfl) rfl rfl (by decide) rfl) ?_)))))))))))))))))))
 refine s_val (v_asI rfl) (s_nil (r_seq (by kernel_rfl) (s_val (v_mvI rfl) (s_val (v_lsI rfl rfl) (s_val (v_mvB rfl) (s_split (s := 12) rfl (fun h12 => ?_) (fun h12 => ?_)))))))
 · refine s_pass rfl rfl h12 (s_pass rfl rfl h12 (s_val (v_pickT (v := .bool _) rfl h12 rfl) (s_nil (c_condTh rfl rfl rfl (r_seq (by kernel_rfl) (s_val (v_asB rfl) (s_nil (c_ret (n_bret (n_ret (n_ret (n_bret (n_ret (n_dnB rfl (by decide) rfl ?_))))))))))))))
   symm
   rw [Bool.eq_false_iff]
   intro hno
   obtain ⟨q1, q2, q3, q4, q5⟩ := noted_all hno
   rw [notedI_iff] at q1 q2 q3 q4 q5
   simp only [decide_eq_true_eq, decide_eq_false_iff_not] at *
   omega
 refine s_want rfl rfl h12 (s_val (v_mvI rfl) (s_want rfl rfl h12 (s_val (v_gtr (k := .i64) rfl rfl) (s_val (v_pickF (v := .bool _) rfl h12 rfl) (s_nil (c_cond rfl rfl (fun h15 => ?_) (fun h15 => ?_)))))))
 · refine r_seq (by kernel_rfl) (s_val (v_asB rfl) (s_nil (c_ret (n_bret (n_ret (n_ret (n_bret (n_ret (n_dnB rfl (by decide) rfl ?_)))))))))
   symm
   rw [Bool.eq_false_iff]
   intro hno
   obtain ⟨q1, q2, q3, q4, q5⟩ := noted_all hno
   rw [notedI_iff] at q1 q2 q3 q4 q5
   simp only [decide_eq_true_eq, decide_eq_false_iff_not] at *
   omega
 refine c_skip (n_bnormal (n_then (r_list (by kernel_rfl) (s_val (v_addL (c := 5) rfl rfl (by decide) (by decide)) (s_val (v_mvI rfl) (s_end (n_thenR (r_succ (r_seq (by kernel_rfl) (s_val (v_lsI rfl rfl) (s_nil (c_seq (c_condFh rfl rfl rfl (c_exit (n_exit (n_exit (n_bhere (n_then (r_seq (by kernel_rfl) ?_)))))))))))))))))))
 refine s_val (v_asB rfl) (s_nil (c_ret (n_dnB rfl (by decide) rfl ?_)))
 symm
 simp only [noted, notedI, Bool.and_eq_true, decide_eq_true_eq]
 simp only [decide_eq_true_eq, decide_eq_false_iff_not] at *
 omega
theorem g_fold (n : Int) (w : World) (hn : notedI n = true) : Gives Tryz.prog 70 [I n] w (I ((zig n : Nat) : Int)) := by
 have hn2 := notedI_iff.1 hn
 refine gives_of Tryz.func70 rfl Tryz.ntmps70 (by simp) (r_seq (by kernel_rfl) (s_val (v_asI rfl) (s_nil (c_seq (r_seq (by kernel_rfl) (s_val (v_mvI rfl) (s_val (v_lsI rfl rfl) (s_nil (c_cond rfl rfl (fun h4 => ?_) (fun h4 => ?_))))))))))
 · refine r_seq (by kernel_rfl) (s_val (v_mvI rfl) (s_val (v_mul rfl rfl (by omega)) (s_val (v_sub rfl rfl (by omega)) (s_val (v_asI rfl) (s_nil (c_ret (n_ret (n_done rfl (by decide) (Eq.trans (b := .int .i64 _) rfl (congrArg (Value.int .i64) ?_))))))))))
   exact zig_neg (of_decide_eq_true h4)
 refine c_skip (n_then (r_seq (by kernel_rfl) (s_val (v_mvI rfl) (s_val (v_mul rfl rfl (by omega)) (s_val (v_asI rfl) (s_nil (c_ret (n_done rfl (by decide) (Eq.trans (b := .int .i64 _) rfl (congrArg (Value.int .i64) ?_))))))))))
 exact zig_pos (of_decide_eq_false h4)
theorem g_unfold (u : Nat) (w : World) (hu : u ≤ 1125899906842624) : Gives Tryz.prog 90 [I (u : Nat)] w (I (zag u)) := by
 refine gives_of Tryz.func90 rfl Tryz.ntmps90 (by simp) (r_seq (by kernel_rfl) (s_val (v_asI rfl) (s_nil (c_seq (r_seq (by kernel_rfl) (s_val (v_mvI rfl) (s_val (v_rem (c := ((u % 2 : Nat) : Int)) rfl rfl (by decide) (tmod_nat _ 2)) (s_val (v_neq (k := .i64) rfl rfl) (s_nil (c_condNR rfl rfl (fun h5 => ?_) (fun h5 => ?_)))))))))))
 · refine c_skip (n_then (r_seq (by kernel_rfl) (s_val (v_mvI rfl) (s_val (v_quo (c := ((u / 2 : Nat) : Int)) rfl rfl (by decide) (by rw [show ((u : Nat) : Int).tdiv 2 = ((u / 2 : Nat) : Int) from tdiv_nat u 2]; exact wr_in (by omega) (by omega))) (s_val (v_asI rfl) (s_nil (c_ret (n_done rfl (by decide) (Eq.trans (b := .int .i64 _) rfl (congrArg (Value.int .i64) ?_))))))))))
   exact zag_even5 (of_decide_eq_true h5)
 refine r_seq (by kernel_rfl) (s_val (v_mvI rfl) (s_val (v_add rfl rfl (by omega)) (s_val (v_neg rfl (by omega)) (s_val (v_quo (c := zag u) rfl rfl (by decide) (by rw [zag_odd5 (of_decide_eq_false h5)]; have := zag_bound u; exact wr_in (by omega) (by omega))) (s_val (v_asI rfl) (s_nil (c_ret (n_ret (n_done rfl (by decide) (Eq.trans (b := .int .i64 _) rfl (congrArg (Value.int .i64) ?_)))))))))))
 rfl
theorem g_checksum (a0 : Option Addr) (c0 : Nat) (l : List Nat) (w : World) (hx : BytesAt (At w) a0 l) (hb : Byt l) (hl : l.length ≤ 1000) : Gives Tryz.prog 48 [.slice a0 l.length c0] w (.tuple #[U8 (((sumOf l).1 % 251 : Nat) : Int), U8 (((sumOf l).2 % 251 : Nat) : Int)]) := by
 refine gives_of Tryz.func48 rfl Tryz.ntmps48 (by simp) (r_seq (by kernel_rfl) (s_val (v_assign (v := .int .u8 _) rfl) (s_val (v_assign (v := .int .u8 _) rfl) (s_nil (r_seq (by kernel_rfl) (s_val (v_asI rfl) (s_val (v_asI rfl) (s_nil (c_seq (r_seq (by kernel_rfl) (s_val (v_move (v := .slice _ _ _) rfl) (s_val (v_lenS (T := 77) (m := 1) (by kernel_rfl) rfl rfl) (s_val (v_mvI rfl) (s_nil (c_block (c_loop (σ := Nat) (fun (k : Nat) f => ∃ g, (k ≤ l.length) ∧ f = (upd (upd (upd (upd (upd g 4 (I (sumOf (l.take k)).1)) 5 (I (sumOf (l.take k)).2)) 8 (.slice a0 l.length c0)) 9 (I l.length)) 10 (I k))) (fun (k : Nat) => Has w (At w) []) (fun (k : Nat) => l.length - k) 0 ⟨_, Nat.zero_le _, live5 rfl rfl rfl rfl rfl⟩ (fun w hw => hw) ?_))))))))))))))))
 rintro k _ ⟨g, hkl0, rfl⟩
 refine r_seq (by kernel_rfl) (s_val (v_lsI rfl rfl) (s_nil (c_seq (c_condR rfl rfl (fun h11 => ?_) (fun h11 => ?_)))))
 · have hkl : k = l.length := by have := of_decide_eq_false h11; omega
   subst hkl
   rw [List.take_of_length_le (Nat.le_refl _)]
   refine c_exit (n_exit (n_exit (n_bhere (n_then (r_seq (by kernel_rfl) (s_val (v_mvI rfl) (s_val (v_rem (c := (((sumOf l).1 % 251 : Nat) : Int)) rfl rfl (by decide) (tmod_nat _ 251)) (s_val (v_toU8 (by kernel_rfl) rfl ⟨by omega, by omega⟩) (s_val (v_mvI rfl) (s_val (v_rem (c := (((sumOf l).2 % 251 : Nat) : Int)) rfl rfl (by decide) (tmod_nat _ 251)) (s_val (v_toU8 (by kernel_rfl) rfl ⟨by omega, by omega⟩) (s_val (v_assign (v := .int .u8 _) rfl) (s_val (v_assign (v := .int .u8 _) rfl) (s_nil (c_ret ?_)))))))))))))))
   exact n_doneT rfl (by decide) (by decide) rfl
 have hk0 := of_decide_eq_true h11
 obtain ⟨b, o, m, ha0, hm, hcm⟩ := hx.get (j := k) (by omega)
 have hm256 := hb m (List.mem_of_getElem? hm)
 have hsb := sum_bound hb k
 have hkk : k * (1 + 255 * k) ≤ 1000 * (1 + 255 * 1000) := Nat.mul_le_mul (by omega) (by omega)
 have hss := sum_step hm
 refine c_skip (n_then (c_seq (c_block (r_seq (by kernel_rfl) (s_val (v_idxS (size := 1) (k := .i64) (by kernel_rfl) (congrArg (fun a => Value.slice a l.length c0) ha0) rfl ⟨by omega, by omega⟩) (s_val (v_load1o (v := U8 m) (by kernel_rfl) rfl (by simpa using hcm)) (s_val (v_assign (v := .int .u8 _) rfl) (s_nil (r_seq (by kernel_rfl) (s_val (v_mvI rfl) (s_val (v_move (v := .int .u8 _) rfl) (s_val (v_ofU8 (by kernel_rfl) rfl ⟨by omega, by omega⟩) (s_val (v_add rfl rfl (by omega)) (s_val (v_asI rfl) (s_nil (r_list (by kernel_rfl) (s_val (v_mvI rfl) (s_val (v_mvI rfl) (s_val (v_add rfl rfl (by omega)) ?_)))))))))))))))))))
 refine s_val (v_asI rfl) (s_end (n_bnormal (n_then (r_list (by kernel_rfl) (s_val (v_add rfl rfl (by omega)) (s_val (v_mvI rfl) (s_end (n_round (k + 1) ⟨_, (by omega), live5 (congrArg I (by rw [hss]; rfl)) (congrArg I (by rw [hss]; push_cast; rfl)) rfl rfl rfl⟩ (fun _ hw => hw) (by omega)))))))))
theorem g_HasPrefix0 (l f : List Nat) (w : World) (hl : Byt l) (hf : Byt f) : Gives Tryz.prog 82 [S l, S f] w (.bool (begins l f)) := by
 refine gives_of Tryz.func82 rfl Tryz.ntmps82 (by simp) (r_seq (by kernel_rfl) (s_val (v_asB rfl) (s_nil (r_seq (by kernel_rfl) (s_val (v_move (v := S _) rfl) (s_val (v_strLen (by kernel_rfl) rfl rfl) (s_val (v_move (v := S _) rfl) (s_val (v_strLen (by kernel_rfl) rfl rfl) (s_val (v_geq (k := .i64) rfl rfl) (s_val (v_mvB rfl) (s_splitR (s := 10) rfl (fun h10 => ?_) (fun h10 => ?_))))))))))))
 · refine s_pass rfl rfl h10 (s_pass rfl rfl h10 (s_pass rfl rfl h10 (s_pass rfl rfl h10 (s_pass rfl rfl h10 (s_pass rfl rfl h10 (s_val (v_pickF (v := .bool _) rfl h10 rfl) (s_val (v_asB rfl) (s_nil (c_ret (n_dnB rfl (by decide) rfl ?_))))))))))
   exact (begins_short (by have := of_decide_eq_false h10; omega)).symm
 refine s_want rfl rfl h10 (s_val (v_move (v := S _) rfl) (s_want rfl rfl h10 (s_val (v_move (v := S _) rfl) (s_want rfl rfl h10 (s_val (v_strLen (by kernel_rfl) rfl rfl) (s_want rfl rfl h10 (s_val (v_strHi (by kernel_rfl) rfl rfl ⟨by omega, by have := of_decide_eq_true h10; omega⟩) (s_want rfl rfl h10 (s_val (v_move (v := S _) rfl) (s_want rfl rfl h10 (s_val (v_strEq rfl rfl (hl.take _) hf) (s_val (v_pickT (v := .bool _) rfl h10 rfl) (s_val (v_asB rfl) (s_nil (c_ret (n_dnB rfl (by decide) rfl ?_))))))))))))))))
 rfl
theorem g_HasPrefix (l f : List Nat) (w : World) (hl : Byt l) (hf : Byt f) : Gives Tryz.prog 69 [S l, S f] w (.bool (begins l f)) := by
 refine gives_of Tryz.func69 rfl Tryz.ntmps69 (by simp) (r_seq (by kernel_rfl) (s_val (v_asB rfl) (s_nil (r_seq (by kernel_rfl) (s_val (v_move (v := S _) rfl) (s_val (v_move (v := S _) rfl) (s_call (by kernel_rfl) (fun w hw => g_HasPrefix0 l f w hl hf) (s_val (v_asB rfl) (s_nil (c_ret (n_dnB rfl (by decide) rfl ?_)))))))))))
 rfl
end Go.Proofs.YtmkboljfbmlebacGreat
namespace Go.Proofs.YtmkboljfbmlebacGreat
open Go.RowKit
set_option linter.unusedSimpArgs false
set_option linter.unusedVariables false
set_option maxRecDepth 100000
attribute [local irreducible] cC sC nC rC qw
theorem g_appendNumber (F : Addr → Value → Prop) (E0 : List (Nat × Obj)) (v0 : Value) (l : List Nat) (n : Int) (hB : Bytes 5 v0 l E0) (hn : notedI n = true) (hl : l.length ≤ 1000) : GivesW Tryz.prog 47 [v0, I n] F (E0) (fun _ v B' => Bytes 5 v (l ++ digs (zig n)) B') := by
 refine givesW_of Tryz.func47 rfl Tryz.ntmps47 (by simp) (fun w K => ?_)
 have hz5 := zig_lt hn
 refine r_seq (by kernel_rfl) (s_val (v_assign (v := .slice _ _ _) rfl) (s_nil (r_seq (by kernel_rfl) (s_val (v_mvI rfl) (s_call (by kernel_rfl) (fun w hw => g_fold n w hn) (s_val (v_asI rfl) (s_nil (c_seq (c_block (c_loop (σ := AN) (fun (s : AN) f => ∃ g, (digs (zig n) = s.m ++ digs s.u ∧ s.u < 128 ^ 5 ∧ s.m.length + (digs s.u).length ≤ 5 ∧ Bytes 5 s.v (l ++ s.m) s.E) ∧ f = (upd (upd g 0 (s.v)) 5 (I (s.u : Nat)))) (fun (s : AN) => Has w F (s.E ++ K)) (fun (s : AN) => s.u) ⟨zig n, [], v0, E0⟩ ⟨_, ⟨rfl, hz5, by simpa using digs_len5 hn, by simpa using hB⟩, live2 rfl rfl⟩ (fun w hw => hw) ?_))))))))))
 rintro s _ ⟨g, ⟨hs1, hs2, hs3, hs4⟩, rfl⟩
 refine c_seq (r_seq (by kernel_rfl) (s_val (v_mvI rfl) (s_val (v_geq (k := .i64) rfl rfl) (s_nil (c_condR rfl rfl (fun h9 => ?_) (fun h9 => ?_))))))
 · have hu := of_decide_eq_false h9
   refine c_exit (n_exit (n_exit (n_bhere (n_then (r_seq (by kernel_rfl) (s_val (v_move (v := _) rfl) (s_val (v_mvI rfl) (s_val (v_toU8 (by kernel_rfl) rfl ⟨by omega, by omega⟩) (s_build1 (v := .int .u8 _) (e := 5) (m := 1) (by_ := 1) (by kernel_rfl) rfl rfl rfl (fill_scalar rfl) (fun b22 => ?_))))))))))
   refine s_push (e := 5) (m := 1) (by_ := 1) (by kernel_rfl) rfl rfl rfl rfl rfl hs4 rfl (all_scalar rfl rfl) (by rw [List.length_append]; omega) (fun v23 E23 hE23 => ?_)
   have hB23 : Bytes 5 v23 (l ++ digs (zig n)) E23 := by rw [hs1, digs_lo (by omega), ← List.append_assoc]; exact Bytes.snoc hE23 rfl
   refine s_val (v_assign (v := _) rfl) (s_nil (c_ret ?_))
   exact n_doneW rfl (by decide) (fun _ _ h => h) (fun w hw => hw) hB23
 have hu := of_decide_eq_true h9
 refine c_skip (n_then (c_block (r_seq (by kernel_rfl) (s_val (v_move (v := _) rfl) (s_val (v_mvI rfl) (s_val (v_rem (c := ((s.u % 128 : Nat) : Int)) rfl rfl (by decide) (tmod_nat _ 128)) (s_val (v_add rfl rfl (by omega)) (s_val (v_toU8 (by kernel_rfl) rfl ⟨by omega, by omega⟩) (s_build1 (v := .int .u8 _) (e := 5) (m := 1) (by_ := 1) (by kernel_rfl) rfl rfl rfl (fill_scalar rfl) (fun b15 => ?_))))))))))
 refine s_push (e := 5) (m := 1) (by_ := 1) (by kernel_rfl) rfl rfl rfl rfl rfl hs4 rfl (all_scalar rfl rfl) (by rw [List.length_append]; omega) (fun v16 E16 hE16 => ?_)
 have hB16 : Bytes 5 v16 (l ++ (s.m ++ [128 + s.u % 128])) E16 := by rw [← List.append_assoc]; exact Bytes.snoc hE16 (by omega)
 refine s_val (v_assign (v := _) rfl) (s_nil (r_list (by kernel_rfl) (s_val (v_mvI rfl) (s_val (v_quo (c := ((s.u / 128 : Nat) : Int)) rfl rfl (by decide) (by rw [show ((s.u : Nat) : Int).tdiv 128 = ((s.u / 128 : Nat) : Int) from tdiv_nat s.u 128]; exact wr_in (by omega) (by omega))) (s_val (v_asI rfl) (s_end (n_bnormal (n_round (s := s) ⟨s.u / 128, s.m ++ [128 + s.u % 128], v16, E16⟩ ⟨_, ⟨by rw [hs1, digs_hi (by omega)]; simp, by simp only; omega, by rw [digs_hi (by omega)] at hs3; simp only [List.length_append, List.length_cons, List.length_nil] at hs3 ⊢; omega, hB16⟩, live2 rfl rfl⟩ (fun _ hw => hw) (by simp only; omega)))))))))
theorem g_readNumber (l : List Nat) (w : World) (hb : Byt l) (hl : l.length ≤ 8388608) : Gives Tryz.prog 81 [S l] w (numR l) := by
 refine gives_of Tryz.func81 rfl Tryz.ntmps81 (by simp) (r_seq (by kernel_rfl) (s_val (v_asI rfl) (s_val (v_asI rfl) (s_val (v_asB rfl) (s_nil (r_seq (by kernel_rfl) (s_val (v_asI rfl) (s_nil (c_seq (r_seq (by kernel_rfl) (s_val (v_move (v := S _) rfl) (s_val (v_strLen (by kernel_rfl) rfl rfl) (s_val (v_least rfl rfl) (s_val (v_mvI rfl) (s_nil (c_block (c_loop (σ := Nat × Nat) (fun (q : Nat × Nat) f => ∃ g, (Dig5 l q.1 q.2) ∧ f = (upd (upd (upd (upd g 0 (S l)) 5 (I (q.2 : Nat))) 10 (I (least l.length 5))) 11 (I (q.1 : Nat)))) (fun (q : Nat × Nat) => Has w (At w) []) (fun (q : Nat × Nat) => 5 - q.1) (0, 0) ⟨_, dig5_start _, live4 rfl rfl rfl rfl⟩ (fun w hw => hw) ?_)))))))))))))))))
 rintro q _ ⟨g, hd, rfl⟩
 refine r_seq (by kernel_rfl) (s_val (v_lsI rfl rfl) (s_nil (c_seq (c_condR rfl rfl (fun h12 => ?_) (fun h12 => ?_)))))
 · refine c_exit (n_exit (n_exit (n_bhere (n_then (r_seq (by kernel_rfl) (s_val (v_asI rfl) (s_val (v_asI rfl) (s_val (v_asB rfl) (s_nil (c_ret ?_))))))))))
   exact n_done3 rfl (by decide) (by decide) (by decide) (numR_no (hd.stop (by have := of_decide_eq_false h12; unfold least at this; split at this <;> omega)))
 have hj5 : q.1 < 5 ∧ q.1 < l.length := by have := of_decide_eq_true h12; unfold least at this; split at this <;> omega
 obtain ⟨hj5, hjl⟩ := hj5
 obtain ⟨b, hbb⟩ : ∃ b, l[q.1]? = some b := ⟨l[q.1], List.getElem?_eq_getElem hjl⟩
 have hb256 : b < 256 := hb b (List.mem_of_getElem? hbb)
 have hpw := (pow5 hj5).1
 have hfit := dig5_fits (b := b) hpw
 have hub := hd.ub
 refine c_skip (n_then (c_seq (c_block (r_seq (by kernel_rfl) (s_val (v_mvI rfl) (s_val (v_asI rfl) (s_nil (r_seq (by kernel_rfl) (s_val (v_move (v := S _) rfl) (s_val (v_mvI rfl) (s_val (v_strIdx (by kernel_rfl) rfl rfl (by omega) hbb hb256) (s_val (v_ofU8 (by kernel_rfl) rfl ⟨by omega, by omega⟩) (s_val (v_asI rfl) (s_nil (r_seq (by kernel_rfl) (s_val (v_mvI rfl) (s_val (v_mvI rfl) (s_val (v_rem (c := ((b % 128 : Nat) : Int)) rfl rfl (by decide) (tmod_nat _ 128)) (s_val (v_mvI rfl) ?_)))))))))))))))))))
 refine s_val (v_mul rfl rfl (by omega)) (s_val (v_shl (c := ((b % 128 * 128 ^ q.1 : Nat) : Int)) rfl rfl ⟨by omega, by omega⟩ (shl5 hj5)) (s_val (v_add rfl rfl (by omega)) (s_val (v_asI rfl) (s_nil ?_))))
 rw [show (q.2 : Int) + ((b % 128 * 128 ^ q.1 : Nat) : Int) = (((q.2 + b % 128 * 128 ^ q.1) : Nat) : Int) from (Int.natCast_add _ _).symm]
 refine r_seq (by kernel_rfl) (s_val (v_mvI rfl) (s_val (v_lsI rfl rfl) (s_nil (c_condR rfl rfl (fun h26 => ?_) (fun h26 => ?_)))))
 · refine c_skip (n_bnormal (n_then (r_list (by kernel_rfl) (s_val (v_add rfl rfl (by omega)) (s_val (v_mvI rfl) (s_end (n_round (s := q) (q.1 + 1, (q.2 + b % 128 * 128 ^ q.1)) ⟨_, hd.step hbb (by have := of_decide_eq_false h26; omega) hb256 hj5, live4 rfl rfl rfl rfl⟩ (fun _ hw => hw) (by dsimp only; omega))))))))
 have hlast := hd.last hbb (by have := of_decide_eq_true h26; omega) hj5
 refine r_seq (by kernel_rfl) (s_val (v_mvI rfl) (s_call (by kernel_rfl) (fun w hw => g_unfold (q.2 + b % 128 * 128 ^ q.1) w (by omega)) (s_val (v_mvI rfl) (s_val (v_add rfl rfl (by omega)) (s_val (v_asI rfl) (s_val (v_asI rfl) (s_val (v_asB rfl) (s_nil (c_ret (n_bret (n_ret (n_ret (n_bret (n_ret ?_))))))))))))))
 exact n_done3 rfl (by decide) (by decide) (by decide) (numR_yes hlast (by omega))
end Go.Proofs.YtmkboljfbmlebacGreat
namespace Go.Proofs.YtmkboljfbmlebacGreat
open Go.RowKit
set_option linter.unusedSimpArgs false
set_option linter.unusedVariables false
set_option maxRecDepth 100000
attribute [local irreducible] cC sC nC rC qw
set_option maxHeartbeats 1000000 in
theorem g_guess (l : List Nat) (w : World) (hb : Byt l) (hl : l.length ≤ 8388608) : Gives Tryz.prog 68 [S l] w (guessR l) := by
 refine gives_of Tryz.func68 rfl Tryz.ntmps68 (by simp) (r_seq (by kernel_rfl) (s_alloc (z := .agg zeroA.cells) (by kernel_rfl) (fun b2 => ?_)))
 refine s_val (v_asB rfl) (s_nil (c_seq (r_seq (by kernel_rfl) (s_val (v_move (v := S _) rfl) (s_val (v_strEq rfl rfl hb byt_nil) (s_nil (c_cond rfl rfl (fun h11 => ?_) (fun h11 => ?_))))))))
 · refine r_seq (by kernel_rfl) (s_val (v_build (vs := []) (cs := zeroA.cells) rfl (by kernel_rfl)) (s_storeA (m := 5) (by kernel_rfl) rfl rfl .here rfl rfl (ActS.all1 _) (s_val (v_asB rfl) (s_nil (c_ret (n_ret ?_))))))
   exact n_doneCT (m := 5) rfl (by decide) (by decide) rfl (by kernel_rfl) .here rfl (guess_no (guess_nil (of_decide_eq_true h11)))
 have hl1 : 1 ≤ l.length := by
   rcases Nat.eq_zero_or_pos l.length with h | h
   · exact absurd (List.eq_nil_of_length_eq_zero h) (of_decide_eq_false h11)
   · exact h
 refine c_skip (n_then (r_seq (by kernel_rfl) (s_val (v_move (v := S _) rfl) (s_val (v_strLo (by kernel_rfl) rfl rfl ⟨by decide, by omega⟩) (s_val (v_assign (v := S _) rfl) (s_nil (r_seq (by kernel_rfl) (s_alloc (z := .agg (vrow [])) (by kernel_rfl) (fun b5 => ?_)))))))))
 refine s_nil (c_seq (r_seq (by kernel_rfl) (s_val (v_mvI rfl) (s_nil (c_block (c_loop (σ := GS) (fun (s : GS) f => ∃ g, (GsOk (l.drop 1) s) ∧ f = (upd (upd (upd (upd (upd g 0 (S l)) 2 (.pointer (some ⟨b2, 0, none⟩))) 4 (S s.rest)) 5 (.pointer (some ⟨b5, 0, none⟩))) 15 (I (s.k : Nat)))) (fun (s : GS) => Has w (At w) [(b5, .cells (vrow s.us) 69), (b2, .cells zeroA.cells 34)]) (fun (s : GS) => 5 - s.k) ⟨0, [], l.drop 1⟩ ⟨_, GsOk.start hb, live5 rfl rfl rfl rfl rfl⟩ (fun w hw => hw) ?_))))))
 rintro s _ ⟨g, hs, rfl⟩
 refine r_seq (by kernel_rfl) (s_val (v_lsI rfl rfl) (s_nil (c_seq (c_condR rfl rfl (fun h16 => ?_) (fun h16 => ?_)))))
 · have hk55 : s.k = 5 := by have := of_decide_eq_false h16; have := hs.k5; omega
   refine c_exit (n_exit (n_exit (n_bhere (n_then (r_seq (by kernel_rfl) (s_val (v_idxA (len := 5) (size := 1) (k := .i64) (by kernel_rfl) rfl rfl (by decide)) (s_val (v_load1 (v := I (vnum s.us 0)) (by kernel_rfl) rfl .here (vrow_at s.us 0 (by decide))) (s_val (v_idxA (len := 5) (size := 1) (k := .i64) (by kernel_rfl) rfl rfl (by decide)) (s_val (v_load1 (v := I (vnum s.us 1)) (by kernel_rfl) rfl .here (vrow_at s.us 1 (by decide))) (s_val (v_idxA (len := 5) (size := 1) (k := .i64) (by kernel_rfl) rfl rfl (by decide)) (s_val (v_load1 (v := I (vnum s.us 2)) (by kernel_rfl) rfl .here (vrow_at s.us 2 (by decide))) (s_val (v_idxA (len := 5) (size := 1) (k := .i64) (by kernel_rfl) rfl rfl (by decide)) (s_val (v_load1 (v := I (vnum s.us 3)) (by kernel_rfl) rfl .here (vrow_at s.us 3 (by decide))) (s_val (v_idxA (len := 5) (size := 1) (k := .i64) (by kernel_rfl) rfl rfl (by decide)) (s_val (v_load1 (v := I (vnum s.us 4)) (by kernel_rfl) rfl .here (vrow_at s.us 4 (by decide))) (s_val (v_build (vs := [(0, .int .i64 _), (1, .int .i64 _), (2, .int .i64 _), (3, .int .i64 _), (4, .int .i64 _)]) (cs := (act5 s.us).cells) rfl (by kernel_rfl)) (s_storeA (m := 5) (by kernel_rfl) rfl rfl (.there .here) rfl rfl (ActS.all1 _) (s_val (v_asB rfl) (s_nil ?_)))))))))))))))))))
   refine c_ret ?_
   exact n_doneCT (m := 5) rfl (by decide) (by decide) rfl (by kernel_rfl) (.there .here) rfl (guess_yes (by have := hs.run; rw [hk55] at this; exact this) (hs.ul.trans hk55))
 have hk5 : s.k < 5 := by have := of_decide_eq_true h16; omega
 have hlen := hs.len
 rw [List.length_drop] at hlen
 refine c_skip (n_then (c_seq (c_block (r_seq (by kernel_rfl) (s_val (v_mvI rfl) (s_val (v_asI rfl) (s_nil (r_seq (by kernel_rfl) (s_val (v_move (v := S _) rfl) (s_call (by kernel_rfl) (fun w hw => g_readNumber s.rest w hs.byt (by omega)) (s_val (v_move (v := .tuple _) rfl) (s_val (v_extract rfl rfl) (s_val (v_extract rfl rfl) (s_val (v_extract rfl rfl) (s_val (v_asI rfl) (s_val (v_asI rfl) (s_val (v_asB rfl) (s_nil (c_seq ?_)))))))))))))))))))
 refine r_seq (by kernel_rfl) (s_val (v_mvB rfl) (s_val (v_not rfl) (s_nil (c_condN rfl rfl (fun h25 => ?_) (fun h25 => ?_)))))
 · refine r_seq (by kernel_rfl) (s_val (v_build (vs := []) (cs := zeroA.cells) rfl (by kernel_rfl)) (s_storeA (m := 5) (by kernel_rfl) rfl rfl (.there .here) rfl rfl (ActS.all1 _) (s_val (v_asB rfl) (s_nil (c_ret (n_ret (n_bret (n_ret (n_ret (n_bret (n_ret ?_)))))))))))
   exact n_doneCT (m := 5) rfl (by decide) (by decide) rfl (by kernel_rfl) (.there .here) rfl (guess_no (hs.gone hk5 (rn_no h25)))
 obtain ⟨u, hu, hval, hkl⟩ := rn_yes h25
 refine c_skip (n_then (r_seq (by kernel_rfl) (s_val (v_mvI rfl) (s_val (v_mvI rfl) (s_val (v_idxA (len := 5) (size := 1) (k := .i64) (by kernel_rfl) rfl rfl ⟨by omega, by omega⟩) (s_store1 (v := .int .i64 _) (by kernel_rfl) rfl rfl .here ⟨by simp only [Array.size_setIfInBounds, vrow_size]; omega, rfl⟩ rfl (s_nil (r_list (by kernel_rfl) (s_val (v_move (v := S _) rfl) (s_val (v_mvI rfl) (s_val (v_strLo (by kernel_rfl) rfl rfl ⟨by omega, by omega⟩) (s_val (v_assign (v := S _) rfl) (s_end (n_bnormal (n_then (r_list (by kernel_rfl) (s_val (v_add rfl rfl (by omega)) (s_val (v_mvI rfl) (s_end ?_)))))))))))))))))))
 refine n_round (s := s) ⟨s.k + 1, s.us ++ [u], s.rest.drop (rnK s.rest)⟩ ⟨_, hs.next hk5 hu, live5 rfl rfl rfl rfl rfl⟩ (fun _ hw => by rw [← vrow_set hs.ul hk5, ← hval]; exact hw) (by dsimp only; omega)
end Go.Proofs.YtmkboljfbmlebacGreat
namespace Go.Proofs.YtmkboljfbmlebacGreat
open Go.RowKit
set_option linter.unusedSimpArgs false
set_option linter.unusedVariables false
set_option maxRecDepth 100000
attribute [local irreducible] cC sC nC rC qw
set_option maxHeartbeats 1000000 in
theorem g_Frame (a : ActS) (w : World) : Gives Tryz.prog 31 [.agg a.cells] w (frameR a) := by
 refine gives_of Tryz.func31 rfl Tryz.ntmps31 (by simp) (r_seq (by kernel_rfl) (s_box (v := .agg _) rfl (fun b1 => ?_)))
 refine s_val (v_assign (v := S []) rfl) (s_val (v_asI rfl) (s_nil (c_seq (r_seq (by kernel_rfl) (s_val (v_loadA (m := 5) (by kernel_rfl) rfl .here rfl) (s_call (by kernel_rfl) (fun w hw => g_Good4 a w) (s_val (v_not rfl) (s_nil (c_condN rfl rfl (fun h12 => ?_) (fun h12 => ?_))))))))))
 · refine r_seq (by kernel_rfl) (s_val (v_assign (v := S []) rfl) (s_val (v_asI rfl) (s_nil (c_ret (n_ret ?_)))))
   exact n_doneT rfl (by decide) (by decide) (by rw [frameR_no h12]; rfl)
 have h11 : noted a = true := h12
 have hbl := body_len h11
 refine c_skip (n_then (r_seq (by kernel_rfl) (s_val (v_assign (v := .slice _ _ _) rfl) (s_nil (c_seq (r_seq (by kernel_rfl) (s_val (v_loadA (m := 5) (by kernel_rfl) rfl .here rfl) (s_call (by kernel_rfl) (fun w hw => g_list a w) (s_val (v_mvI rfl) (s_nil (c_block (c_loop (σ := FB) (fun (s : FB) f => ∃ g, (s.k ≤ 5 ∧ Bytes 5 s.v (bodyTo a s.k) s.E) ∧ f = (upd (upd (upd (upd g 1 (.pointer (some ⟨b1, 0, none⟩))) 4 (s.v)) 14 (.agg a.cells)) 15 (I (s.k : Nat)))) (fun (s : FB) => Has w (At w) (s.E ++ [(b1, .cells a.cells 34)])) (fun (s : FB) => 5 - s.k) ⟨0, .slice none 0 0, []⟩ ⟨_, ⟨by decide, byts_nil _⟩, live4 rfl rfl rfl rfl⟩ (fun w hw => hw) ?_))))))))))))
 rintro s _ ⟨g, ⟨hk, hs⟩, rfl⟩
 refine r_seq (by kernel_rfl) (s_val (v_lsI rfl rfl) (s_nil (c_seq (c_cond rfl rfl (fun h16 => ?_) (fun h16 => ?_)))))
 · have hk5 : s.k < 5 := by have := of_decide_eq_true h16; omega
   obtain ⟨n, hnk, hcn⟩ := a.get hk5
   have hroom := body_room h11 s.k
   refine c_skip (n_then (c_seq (c_block (r_seq (by kernel_rfl) (s_val (v_indexS (len := 5) (t := 3) (m := 1) (k := .i64) (v := I n) (by kernel_rfl) (by kernel_rfl) rfl rfl ⟨by omega, by omega⟩ hcn) (s_val (v_asI rfl) (s_nil (r_list (by kernel_rfl) (s_val (v_move (v := _) rfl) (s_val (v_mvI rfl) (s_callB (by kernel_rfl) (g_appendNumber (At w) s.E s.v (bodyTo a s.k) n hs (noted_list h11 hnk) (by omega)) (fun v20 E20 hR20 => ?_))))))))))))
   refine s_val (v_assign (v := _) rfl) (s_end (n_bnormal (n_then (r_list (by kernel_rfl) (s_val (v_add rfl rfl (by omega)) (s_val (v_mvI rfl) (s_end (n_round (s := s) ⟨s.k + 1, v20, E20⟩ ⟨_, ⟨hk5, by rw [body_step hnk]; exact hR20⟩, live4 rfl rfl rfl rfl⟩ (fun _ hw => hw) (by dsimp only; omega)))))))))
 refine c_exit (n_exit (n_exit (n_bhere (n_then ?_))))
 have hk55 : s.k = 5 := by have := of_decide_eq_false h16; omega
 rw [hk55, body_five] at hs
 obtain ⟨g4, c4, cs4, hv4, hE4, hc4⟩ := hs.block (by omega)
 rw [hv4]
 refine c_weak (C' := Has w (At w) [(g4, .cells cs4 5), (b1, .cells a.cells 34)]) (fun _ hw => by rw [hE4] at hw; exact hw) (r_seq (by kernel_rfl) (s_val (v_move (v := .slice _ _ _) rfl) (s_val (v_lenS (T := 77) (m := 1) (by kernel_rfl) rfl rfl) (s_val (v_toU8 (by kernel_rfl) rfl ⟨by omega, by omega⟩) (s_build1 (v := .int .u8 _) (e := 5) (m := 1) (by_ := 1) (by kernel_rfl) rfl rfl rfl (fill_scalar rfl) (fun b25 => ?_))))))
 refine s_val (v_assign (v := .slice _ _ _) rfl) (s_nil (r_seq (by kernel_rfl) (s_val (v_move (v := .slice _ _ _) rfl) (s_val (v_move (v := .slice _ _ _) rfl) (s_pushM (E := [(b25, .cells #[U8 ((bodyOf a).length : Nat)] 5)]) (e := 5) (m := 1) (by_ := 1) (mm := (bodyOf a).length) (news := u8s (bodyOf a)) (by kernel_rfl) rfl rfl rfl rfl rfl (byts_one _ b25 (bodyOf a).length) (by rw [u8s_len]; omega) (fun w1 hw j u hj => ?_) (u8s_one _) (by omega) (by simp only [List.length_cons, List.length_nil]; omega) (fun v28 E28 hE28 => ?_))))))
 · obtain ⟨m, hm, rfl⟩ : ∃ m, (bodyOf a)[j]? = some m ∧ u = U8 (m : Int) := by
     cases hq : (bodyOf a)[j]? with
     | none => simp [u8s, hq] at hj
     | some m => exact ⟨m, rfl, by simpa [u8s, hq] using hj.symm⟩
   rw [Nat.zero_add, cell_has hw (.there .here)]; exact hc4 j m hm
 have hB28 : Bytes 5 v28 ((bodyOf a).length :: bodyOf a) E28 := Bytes.push (l := [(bodyOf a).length]) hE28
 refine s_val (v_assign (v := _) rfl) (s_nil (r_seq (by kernel_rfl) (s_val (v_move (v := .slice _ _ _) rfl) (s_call (by kernel_rfl) (fun w hw => g_checksum (some ⟨g4, 0, none⟩) c4 (bodyOf a) w (.inr ⟨g4, 0, rfl, fun j m hj => by show World.cell? _ _ = _; rw [Nat.zero_add, cell_has hw (Look.app .here)]; exact hc4 j m hj⟩) (fun b hb => body_byte a b hb) (by omega)) (s_val (v_move (v := .tuple _) rfl) (s_val (v_extract rfl rfl) (s_val (v_extract rfl rfl) (s_val (v_assign (v := .int .u8 _) rfl) (s_val (v_assign (v := .int .u8 _) rfl) (s_nil (r_seq (by kernel_rfl) (s_val (v_move (v := _) rfl) (s_val (v_move (v := .int .u8 _) rfl) (s_val (v_move (v := .int .u8 _) rfl) (s_buildS (e := 5) (vs := [(0, .int .u8 _), (1, .int .u8 _)]) (cs := #[U8 (((sumOf (bodyOf a)).1 % 251 : Nat) : Int), U8 (((sumOf (bodyOf a)).2 % 251 : Nat) : Int)]) rfl (by kernel_rfl) (fun b37 => ?_))))))))))))))))
 refine s_pushN (e := 5) (m := 1) (by_ := 1) (mm := 2) (by kernel_rfl) rfl rfl rfl rfl rfl hB28 rfl (by simp [Value.oneCell']) (by decide) (by simp only [List.length_cons]; omega) (fun v38 E38 hE38 => ?_)
 have hB38 : Bytes 5 v38 (((bodyOf a).length :: bodyOf a) ++ [(sumOf (bodyOf a)).1 % 251, (sumOf (bodyOf a)).2 % 251]) E38 := Bytes.push (m := [(sumOf (bodyOf a)).1 % 251, (sumOf (bodyOf a)).2 % 251]) hE38
 refine s_val (v_strOfE (l := frameOf a) (by kernel_rfl) (by kernel_rfl) rfl hB38 (by rw [frame_len]; omega) (frame_byte h11)) (s_val (v_assign (v := S _) rfl) (s_val (v_asI rfl) (s_nil (c_ret ?_))))
 exact n_doneT rfl (by decide) (by decide) (by rw [frameR_yes h11]; rfl)
end Go.Proofs.YtmkboljfbmlebacGreat
namespace Go.Proofs.YtmkboljfbmlebacGreat
open Go.RowKit
set_option linter.unusedSimpArgs false
set_option linter.unusedVariables false
set_option maxRecDepth 100000
attribute [local irreducible] cC sC nC rC qw
set_option maxHeartbeats 1000000 in
theorem g_readFrame (l : List Nat) (w : World) (hb : Byt l) (hl : l.length ≤ 8388608) : Gives Tryz.prog 44 [S l] w (frontR l) := by
 refine gives_of Tryz.func44 rfl Tryz.ntmps44 (by simp) (r_seq (by kernel_rfl) (s_alloc (z := .agg zeroA.cells) (by kernel_rfl) (fun b2 => ?_)))
 refine s_val (v_asI rfl) (s_val (v_asB rfl) (s_nil (r_seq (by kernel_rfl) (s_val (v_move (v := S _) rfl) (s_call (by kernel_rfl) (fun w hw => g_guess l w hb hl) (s_val (v_move (v := .tuple _) rfl) (s_val (v_extract rfl rfl) (s_val (v_extract rfl rfl) (s_alloc (z := .agg zeroA.cells) (by kernel_rfl) (fun b5 => ?_))))))))))
 refine s_storeA (m := 5) (by kernel_rfl) rfl rfl .here rfl rfl (ActS.all1 _) (s_val (v_asB rfl) (s_nil (c_seq (r_seq (by kernel_rfl) (s_val (v_mvB rfl) (s_val (v_not rfl) (s_nil (c_condN rfl rfl (fun h15 => ?_) (fun h15 => ?_)))))))))
 · refine r_seq (by kernel_rfl) (s_val (v_build (vs := []) (cs := zeroA.cells) rfl (by kernel_rfl)) (s_storeA (m := 5) (by kernel_rfl) rfl rfl (.there .here) rfl rfl (ActS.all1 _) (s_val (v_asI rfl) (s_val (v_asB rfl) (s_nil (c_ret (n_ret ?_)))))))
   exact n_doneCTT (m := 5) rfl (by decide) (by decide) (by decide) rfl (by kernel_rfl) (.there .here) rfl (front_no (first_gone h15))
 refine c_skip (n_then (r_seq (by kernel_rfl) (s_val (v_loadA (m := 5) (by kernel_rfl) rfl .here rfl) (s_call (by kernel_rfl) (fun w hw => g_Frame (gAct l) w) (s_val (v_move (v := .tuple _) rfl) (s_val (v_extract rfl rfl) (s_val (v_extract rfl rfl) (s_val (v_assign (v := S _) rfl) (s_val (v_asI rfl) (s_nil (c_seq (r_seq (by kernel_rfl) (s_val (v_mvI rfl) (s_val (v_neq (k := .i64) rfl rfl) (s_val (v_mvB rfl) (s_splitN (s := 24) rfl (fun h24 => ?_) (fun h24 => ?_)))))))))))))))))
 · refine s_pass rfl rfl (congrArg not h24) (s_pass rfl rfl (congrArg not h24) (s_pass rfl rfl (congrArg not h24) (s_pass rfl rfl (congrArg not h24) (s_val (v_pickT (v := .bool _) rfl (congrArg not h24) rfl) (s_nil (c_condTh rfl rfl rfl (r_seq (by kernel_rfl) (s_val (v_build (vs := []) (cs := zeroA.cells) rfl (by kernel_rfl)) (s_storeA (m := 5) (by kernel_rfl) rfl rfl (.there .here) rfl rfl (ActS.all1 _) (s_val (v_asI rfl) (s_val (v_asB rfl) (s_nil (c_ret (n_ret ?_))))))))))))))
   exact n_doneCTT (m := 5) rfl (by decide) (by decide) (by decide) rfl (by kernel_rfl) (.there .here) rfl (front_no (first_other h15 (fun h => absurd (by simp [fErr, h.1]) (of_decide_eq_false h24))))
 have hnx := fErr_ok (of_decide_eq_true h24)
 have hft : fText (gAct l) = frameOf (gAct l) := by simp [fText, hnx]
 refine s_want rfl rfl (congrArg not h24) (s_val (v_move (v := S _) rfl) (s_want rfl rfl (congrArg not h24) (s_val (v_move (v := S _) rfl) (s_want rfl rfl (congrArg not h24) (s_call (by kernel_rfl) (fun w hw => g_HasPrefix l (fText (gAct l)) w hb (fText_byt _)) (s_want rfl rfl (congrArg not h24) (s_val (v_not rfl) (s_val (v_pickF (v := .bool _) rfl (congrArg not h24) rfl) (s_nil (c_condN rfl rfl (fun h29 => ?_) (fun h29 => ?_)))))))))))
 · refine r_seq (by kernel_rfl) (s_val (v_build (vs := []) (cs := zeroA.cells) rfl (by kernel_rfl)) (s_storeA (m := 5) (by kernel_rfl) rfl rfl (.there .here) rfl rfl (ActS.all1 _) (s_val (v_asI rfl) (s_val (v_asB rfl) (s_nil (c_ret (n_ret ?_)))))))
   exact n_doneCTT (m := 5) rfl (by decide) (by decide) (by decide) rfl (by kernel_rfl) (.there .here) rfl (front_no (first_other h15 (fun h => absurd ((begins_iff (l := l) (f := fText (gAct l))).2 (by rw [hft]; exact h.2)) (by rw [h29]; decide))))
 refine c_skip (n_then (r_seq (by kernel_rfl) (s_val (v_loadA (m := 5) (by kernel_rfl) rfl .here rfl) (s_val (v_move (v := S _) rfl) (s_val (v_strLen (by kernel_rfl) rfl rfl) (s_storeA (m := 5) (by kernel_rfl) rfl rfl (.there .here) rfl rfl (ActS.all1 _) (s_val (v_asI rfl) (s_val (v_asB rfl) (s_nil (c_ret ?_))))))))))
 exact n_doneCTT (m := 5) rfl (by decide) (by decide) (by decide) rfl (by kernel_rfl) (.there .here) rfl (by rw [hft]; exact front_yes (first_this hnx (by rw [← hft]; exact begins_iff.1 h29)))
end Go.Proofs.YtmkboljfbmlebacGreat
namespace Go.Proofs.YtmkboljfbmlebacGreat
open Go.RowKit
set_option linter.unusedSimpArgs false
set_option linter.unusedVariables false
set_option maxRecDepth 100000
attribute [local irreducible] cC sC nC rC qw
set_option maxHeartbeats 1000000 in
theorem g_Read (l : List Nat) (w : World) (hb : Byt l) (hl : l.length ≤ 8388608) : GivesF Tryz.prog 29 [S l] w (ReadF l) := by
 refine givesF_of Tryz.func29 rfl Tryz.ntmps29 (by simp) (r_seq (by kernel_rfl) (s_val (v_assign (v := .slice _ _ _) rfl) (s_val (v_asI rfl) (s_nil (r_seq (by kernel_rfl) (s_val (v_assign (v := .slice _ _ _) rfl) (s_nil (r_seq (by kernel_rfl) (s_val (v_asI rfl) (s_nil (c_block (c_loop (σ := RB) (fun (s : RB) f => ∃ g, (RbOk 34 l s) ∧ f = (upd (upd (upd g 0 (S l)) 4 (s.v)) 5 (I ((bytesOf s.xs).length : Nat)))) (fun (s : RB) => Has w (At w) (s.E ++ [])) (fun (s : RB) => l.length - (bytesOf s.xs).length) ⟨[], .slice none 0 0, []⟩ ⟨_, ⟨listE_nil _ _, Nat.zero_le _, rfl, Nat.le_refl _⟩, live3 rfl rfl rfl⟩ (fun w hw => hw) ?_))))))))))))
 rintro s _ ⟨g, ho, rfl⟩
 refine c_block ?_
 have hfront := ho.front
 refine r_seq (by kernel_rfl) (s_val (v_move (v := S _) rfl) (s_val (v_mvI rfl) (s_val (v := S (l.drop (bytesOf s.xs).length)) (v_strLo (a := l) (i := ((bytesOf s.xs).length : Nat)) (by kernel_rfl) rfl rfl ⟨by omega, by omega⟩) (s_call (by kernel_rfl) (fun w hw => g_readFrame (l.drop (bytesOf s.xs).length) w (hb.drop _) (by rw [List.length_drop]; omega)) (s_val (v_move (v := .tuple _) rfl) (s_val (v_extract rfl rfl) (s_val (v_extract rfl rfl) (s_val (v_extract rfl rfl) (s_alloc (z := .agg zeroA.cells) (by kernel_rfl) (fun b6 => ?_))))))))))
 refine s_storeA (m := 5) (by kernel_rfl) rfl rfl .here rfl rfl (ActS.all1 _) (s_val (v_asI rfl) (s_val (v_asB rfl) (s_nil (c_seq (r_seq (by kernel_rfl) (s_val (v_mvB rfl) (s_val (v_not rfl) (s_nil (c_condN rfl rfl (fun h18 => ?_) (fun h18 => ?_))))))))))
 · refine r_seq (by kernel_rfl) (s_val (v_move (v := _) rfl) (s_val (v_mvI rfl) (s_val (v_assign (v := _) rfl) (s_val (v_asI rfl) (s_nil (c_ret (n_ret (n_bret (n_ret (n_bret (n_doneTF rfl (by decide) (by decide) (fun w hw => ?_))))))))))))
   exact ho.done (rf_no h18) (own_fresh hw.tail)
 refine c_skip (n_then ?_)
 refine c_weak (C' := Has w (At w) (s.E ++ [(b6, .cells (rfAct (l.drop (bytesOf s.xs).length)).cells 34)])) (fun _ hw => by
   have h1 := hw.sub (L' := (b6, .cells (rfAct (l.drop (bytesOf s.xs).length)).cells 34) :: (s.E ++ [])) (List.Sublist.refl _)
   rw [List.append_nil] at h1
   exact h1.perm (List.perm_append_comm (l₁ := [_]))) ?_
 have hfr := rf_yes h18
 have height := ho.eight
 have hfl := frame_len (rfAct (l.drop (bytesOf s.xs).length))
 have hpre := ((first_iff _ _).1 hfr.1).2.length_le
 rw [List.length_drop] at hpre
 refine r_seq (by kernel_rfl) (s_val (v_move (v := _) rfl) (s_val (v_loadA (m := 5) (by kernel_rfl) rfl (.app .here) rfl) (s_build1 (v := .agg _) (e := 34) (m := 5) (by_ := 40) (by kernel_rfl) rfl rfl rfl (fill_one rfl) (fun b23 => ?_))))
 refine s_push (e := 34) (m := 5) (by_ := 40) (by kernel_rfl) rfl rfl rfl rfl rfl ho.list rfl (ActS.all1 _) (by omega) (fun v24 E24 hE24 => ?_)
 refine s_val (v_assign (v := _) rfl) (s_nil (r_list (by kernel_rfl) (s_val (v_mvI rfl) (s_val (v_mvI rfl) (s_val (v_add rfl rfl (by omega)) (s_val (v_asI rfl) (s_end (n_bnormal (n_round (s := s) ⟨s.xs ++ [rfAct (l.drop (bytesOf s.xs).length)], v24, E24⟩ ⟨_, (ho.next hfr.1 hE24).1, live3 rfl rfl (congrArg I (by have h1 := (ho.next hfr.1 hE24).2; have h2 := hfr.2; dsimp only; omega))⟩ (fun _ hw => hw.sub (List.Sublist.append (List.Sublist.refl _) (List.nil_sublist _))) (by have h1 := (ho.next hfr.1 hE24).2; have h2 := (ho.next hfr.1 hE24).1.front; dsimp only at h2 ⊢; omega))))))))))
end Go.Proofs.YtmkboljfbmlebacGreat
namespace Go.Proofs.YtmkboljfbmlebacGreat
open Go.RowKit
set_option linter.unusedSimpArgs false
set_option linter.unusedVariables false
def bankD (h : H) (t : List Nat) (up : Bool) (n : Int) (fs : Bool) (kp : Int) : Array Value := h.cells ++ #[S t, .bool up, I n, .bool fs, I kp]
section
variable (h : H) (t : List Nat) (up : Bool) (n : Int) (fs : Bool) (kp : Int)
theorem bankD_size : (bankD h t up n fs kp).size = 47 := by simp [bankD, H.size]
theorem bankD_house : (bankD h t up n fs kp).extract (0 + 0) (0 + 0 + 42) = h.cells := by
 unfold bankD
 rw [Array.extract_append]
 simp [H.size]
theorem bankD_over (h' : H) : over (bankD h t up n fs kp) (0 + 0) h'.cells.toList = bankD h' t up n fs kp := by
 unfold over bankD
 apply Array.ext'
 simp [H.size]
theorem bankD_text : (bankD h t up n fs kp)[0 + 42]? = some (S t) := by unfold bankD; rw [Array.getElem?_append_right (by rw [H.size]; omega), H.size]; rfl
theorem bankD_up : (bankD h t up n fs kp)[0 + 43]? = some (.bool up) := by unfold bankD; rw [Array.getElem?_append_right (by rw [H.size]; omega), H.size]; rfl
theorem bankD_acts : (bankD h t up n fs kp)[0 + 44]? = some (I n) := by unfold bankD; rw [Array.getElem?_append_right (by rw [H.size]; omega), H.size]; rfl
theorem bankD_fails : (bankD h t up n fs kp)[0 + 45]? = some (.bool fs) := by unfold bankD; rw [Array.getElem?_append_right (by rw [H.size]; omega), H.size]; rfl
theorem bankD_kept : (bankD h t up n fs kp)[0 + 46]? = some (I kp) := by unfold bankD; rw [Array.getElem?_append_right (by rw [H.size]; omega), H.size]; rfl
theorem bankD_set {k : Nat} (hk : k < 5) (v : Value) : (bankD h t up n fs kp).setIfInBounds (42 + k) v = h.cells ++ (#[S t, .bool up, I n, .bool fs, I kp] : Array Value).setIfInBounds k v := by
 unfold bankD
 rw [Array.setIfInBounds_append_right (by rw [H.size]; omega), H.size]
 congr 2
 omega
theorem bankD_setText {u : List Nat} : 0 + 42 < (bankD h t up n fs kp).size ∧ (bankD h t up n fs kp).setIfInBounds (0 + 42) (S u) = bankD h u up n fs kp := ⟨by rw [bankD_size]; omega, bankD_set h t up n fs kp (k := 0) (by omega) _⟩
theorem bankD_setUp {u : Bool} : 0 + 43 < (bankD h t up n fs kp).size ∧ (bankD h t up n fs kp).setIfInBounds (0 + 43) (.bool u) = bankD h t u n fs kp := ⟨by rw [bankD_size]; omega, bankD_set h t up n fs kp (k := 1) (by omega) _⟩
theorem bankD_setActs {u : Int} : 0 + 44 < (bankD h t up n fs kp).size ∧ (bankD h t up n fs kp).setIfInBounds (0 + 44) (I u) = bankD h t up u fs kp := ⟨by rw [bankD_size]; omega, bankD_set h t up n fs kp (k := 2) (by omega) _⟩
theorem bankD_setFails {u : Bool} : 0 + 45 < (bankD h t up n fs kp).size ∧ (bankD h t up n fs kp).setIfInBounds (0 + 45) (.bool u) = bankD h t up n u kp := ⟨by rw [bankD_size]; omega, bankD_set h t up n fs kp (k := 3) (by omega) _⟩
theorem bankD_setKept {u : Int} : 0 + 46 < (bankD h t up n fs kp).size ∧ (bankD h t up n fs kp).setIfInBounds (0 + 46) (I u) = bankD h t up n fs u := ⟨by rw [bankD_size]; omega, bankD_set h t up n fs kp (k := 4) (by omega) _⟩
end
def keptOf (f : Int) : Int := if 0 ≤ f then f else 0
def DevRep (tb : Nat) (F : Addr → Value → Prop) (b : Nat) (B : List (Nat × Obj)) (s : BankS) : Prop :=
 ∃ h : H, B = [(b, .cells (bankD h s.text (!s.down) s.acts (decide (0 ≤ s.fail)) (keptOf s.fail)) tb (0, 0))] ∧ h.core = s.c ∧ PaysIn F h.pa h.pl s.ps ∧ h.pl ≤ h.pc
theorem DevRep.mono {tb : Nat} {F F' : Addr → Value → Prop} {b : Nat} {B : List (Nat × Obj)} {s : BankS} (h : DevRep tb F b B s) (hm : More F F') : DevRep tb F' b B s := by
 obtain ⟨k, h1, h2, h3, h4⟩ := h
 exact ⟨k, h1, h2, h3.mono hm, h4⟩
noncomputable def openM (s : BankS) : BankS × RepS :=
 bif !s.down then (s, errR 2) else ({ s with c := (replayM (readM s.text)).1, ps := (replayM (readM s.text)).2, text := bytesOf (readM s.text), down := false }, ⟨0, (readM s.text).length, []⟩)
def schedM (s : BankS) (n : Int) : BankS × RepS := bif !withinB n 0 4000 then (s, errR 3) else ({ s with fail := n }, errR 0)
noncomputable def execM (s : BankS) (a : ActS) : BankS × RepS :=
 bif !decide ((nextM s.c s.ps a).code = 0) then (s, (nextM s.c s.ps a).rep)
 else bif !noted a then (s, errR 3)
 else bif decide (4000 < s.text.length + (frameOf a).length) then (s, errR 5)
 else bif decide (0 ≤ s.fail) then ({ s with text := s.text ++ (frameOf a).take s.fail.toNat, down := true, fail := -1 }, errR 7)
 else ({ s with text := s.text ++ frameOf a, c := (nextM s.c s.ps a).c, ps := (nextM s.c s.ps a).ps }, (nextM s.c s.ps a).rep)
theorem doM_eq (s : BankS) (a : ActS) : doM s a = bif decide (s.acts = 200) then (s, errR 5) else bif decide (a.kind = 11) then openM { s with acts := s.acts + 1 } else bif s.down then ({ s with acts := s.acts + 1 }, errR 7)
   else bif decide (a.kind = 10) then schedM { s with acts := s.acts + 1 } a.n else execM { s with acts := s.acts + 1 } a := rfl
def DoR (tb b : Nat) (p : BankS × RepS) (F' : Addr → Value → Prop) (v : Value) (B' : List (Nat × Obj)) : Prop :=
 ∃ v1 E B1, B' = E ++ B1 ∧ v = .agg (repC p.2.code p.2.n v1) ∧ IntsO p.2.done v1 E ∧ DevRep tb F' b B1 p.1
theorem intsO_nil : IntsO [] (.slice none 0 0) [] := ⟨none, 0, rfl, Nat.le_refl _, .inl ⟨rfl, rfl⟩⟩
theorem doR_err {tb b : Nat} {F : Addr → Value → Prop} {h : H} {ps : List PayS} {t : List Nat} {dn : Bool} {fl e : Int} {na : Nat} {p : BankS × RepS} (hq : p = (⟨h.core, ps, t, dn, fl, na⟩, errR e)) (hp : PaysIn F h.pa h.pl ps) (hlc : h.pl ≤ h.pc) :
   DoR tb b p F (.agg (repC e 0 (.slice none 0 0))) [(b, .cells (bankD h t (!dn) na (decide (0 ≤ fl)) (keptOf fl)) tb (0, 0))] := by
 subst hq
 exact ⟨_, [], _, rfl, rfl, intsO_nil, h, rfl, rfl, hp, hlc⟩
theorem doR_rep {tb b e : Nat} {F : Addr → Value → Prop} {h c : H} {ps : List PayS} {t : List Nat} {dn : Bool} {fl : Int} {na : Nat} {p : BankS × RepS} {q : NR} {vd : Value} {E : List (Nat × Obj)} (hq : p = (⟨c, ps, t, dn, fl, na⟩, q.rep)) (hc : h.core = c) (hp : PaysIn F h.pa h.pl ps) (hlc : h.pl ≤ h.pc) (hd : ListE e 1 vd q.done.length (q.done.map I) E) :
   DoR tb b p F (.agg (repC q.code q.n vd)) (E ++ [(b, .cells (bankD h t (!dn) na (decide (0 ≤ fl)) (keptOf fl)) tb (0, 0))]) := by
 subst hq
 exact ⟨_, E, _, rfl, rfl, hd.ints, h, rfl, hc, hp, hlc⟩
theorem fText_yesD {a : ActS} (h : noted a = true) : fText a = frameOf a := by simp [fText, h]
theorem fText_lenD (a : ActS) : (fText a).length ≤ 28 := by
 unfold fText
 cases hn : noted a
 · simp
 · have := (body_len hn).2
   simp [frameOf]; omega
theorem fErr_noD {a : ActS} (h : noted a = false) : fErr a = 3 := by simp [fErr, h]
theorem frame_codeD {a : ActS} : (fErr a = 0 → noted a = true) ∧ (¬ fErr a = 0 → noted a = false) := by
 unfold fErr
 cases noted a <;> simp
theorem take_minD {a : ActS} (h : noted a = true) {fl : Int} (h0 : 0 ≤ fl) : (fText a).take (minI (keptOf fl) ((fText a).length : Int)).toNat = (frameOf a).take fl.toNat := by
 rw [fText_yesD h, keptOf, if_pos h0]
 unfold minI
 split
 · rw [List.take_of_length_le (by omega), List.take_of_length_le (by omega)]
 · rfl
theorem bytes_countD : ∀ (xs : List ActS), xs.length ≤ (bytesOf xs).length
 | [] => Nat.zero_le _
 | x :: r => by
   have e : bytesOf (x :: r) = frameOf x ++ bytesOf r := by simp [bytesOf]
   have := bytes_countD r
   rw [e, List.length_append, List.length_cons, frame_len]
   omega
theorem read_factsD (l : List Nat) : (bytesOf (readM l)).length ≤ l.length ∧ (readM l).length ≤ l.length ∧ l.take ((bytesOf (readM l)).length : Int).toNat = bytesOf (readM l) := by
 have h := (readM_bytes l).1
 have h1 := h.length_le
 have h2 := bytes_countD (readM l)
 exact ⟨h1, by omega, by rw [Int.toNat_natCast]; exact (List.prefix_iff_eq_take.1 h).symm⟩
section
variable {P : Program} {fn : Func} {n t T b m ty : Nat} {fr : Nat × Nat} {cs : Array Value} {f : Nat → Value} {w0 : World} {F0 F : Addr → Value → Prop} {L K : List (Nat × Obj)}
theorem n_doneWD {R : (Addr → Value → Prop) → Value → List (Nat × Obj) → Prop} (hr : fn.results = #[.cell t T]) (ht : t < n) (hp : f t = .pointer (some ⟨b, 0, none⟩))
   (hT : aggB P T m = true) (hl : Look L b (.cells cs ty fr)) (hm : cs.size = m) (hv : ∀ w, Has w0 F L w → retW w0 F0 K R (.agg cs) w) : nC (retQ P fn n (retW w0 F0 K R)) .ret f (Has w0 F L) := by
 intro w hw
 refine ⟨.agg cs, ?_, hv w hw⟩
 have e : (Fa n f).tmps[t]?.getD undef = f t := by simp [Fa, ht]
 subst hm
 have := run_loadN (P := P) (w := w) (b := b) (o := 0) (cs := cs.toList) (by simpa using hT) (fun j v hj => by
   rw [cell_has hw hl]; simpa using hj)
 simp only [Instr.loadAt, Instr.sureAddr, Sem.run_bind, Sem.run_pure, Result.andThen] at this
 simp [results, hr, e, hp, asAddr, this]
end
theorem has_assoc {w0 w : World} {F : Addr → Value → Prop} {A B C : List (Nat × Obj)} (h : Has w0 F ((A ++ B) ++ C) w) : Has w0 F (A ++ (B ++ C)) w := by rw [List.append_assoc] at h; exact h
theorem has_assoc' {w0 w : World} {F : Addr → Value → Prop} {A B C : List (Nat × Obj)} (h : Has w0 F (A ++ (B ++ C)) w) : Has w0 F ((A ++ B) ++ C) w := by rw [List.append_assoc]; exact h
theorem has_one {w0 w : World} {F : Addr → Value → Prop} {x : Nat × Obj} {C : List (Nat × Obj)} (h : Has w0 F (x :: C) w) : Has w0 F ([x] ++ C) w := h
theorem has_last {w0 w : World} {F : Addr → Value → Prop} {x : Nat × Obj} {A C : List (Nat × Obj)} (h : Has w0 F (A ++ (x :: C)) w) : Has w0 F ((A ++ [x]) ++ C) w := has_assoc' (B := [x]) h
abbrev QD := Option (H × Option Addr × Nat × Nat)
structure DE where
 F : Addr → Value → Prop
 E : List (Nat × Obj)
 b5 : Option Nat
 b6 : Option Nat
 q : QD
structure DE.Le (r r' : DE) : Prop where
 F : More r.F r'.F
 b5 : ∀ x, r.b5 = some x → r'.b5 = some x
 b6 : ∀ x, r.b6 = some x → r'.b6 = some x
 q : ∀ x, r.q = some x → r'.q = some x
theorem DE.Le.refl (r : DE) : DE.Le r r := ⟨fun _ _ h => h, fun _ h => h, fun _ h => h, fun _ h => h⟩
def oneD (o : Option Nat) (cs : Array Value) (t : Nat) : List (Nat × Obj) := match o with | some b => [(b, .cells cs t (0, 0))] | none => []
def hqD (b : Bool) (q : QD) : Array Value := if b then (match q with | some (h, _, _, _) => h.cells | none => zeroH.cells) else zeroH.cells
def rqD (b : Bool) (c n : Int) (q : QD) : Array Value := if b then (match q with | some (_, a, m, k) => repC c n (.slice a m k) | none => repC 0 0 (.slice none 0 0)) else repC 0 0 (.slice none 0 0)
def deLo (th tr : Nat) (c n : Int) (L0 : List (Nat × Obj)) (b : Nat → Bool) (r : DE) : List (Nat × Obj) := r.E ++ (oneD r.b6 (rqD (b 12) c n r.q) tr ++ (oneD r.b5 (hqD (b 11) r.q) th ++ L0))
structure deG (F0 : Addr → Value → Prop) (R : (Addr → Value → Prop) → List (Nat × Obj) → H → Option Addr → Nat → Nat → Prop) (b : Nat → Bool) (r : DE) : Prop where
 more : More F0 r.F
 b5 : b 9 = false → r.b5 = none
 b6 : b 10 = false → r.b6 = none
 q : b 5 = false → r.q = none ∧ r.E = []
 has : ∀ h a m k, r.q = some (h, a, m, k) → R r.F r.E h a m k
 h11 : b 11 = true → b 9 = true ∧ b 5 = true
 h12 : b 12 = true → b 10 = true ∧ b 5 = true
section
variable {th tr : Nat} {c n : Int} {L0 : List (Nat × Obj)} {b : Nat → Bool} {r : DE}
theorem deLo_before (hE : r.E = []) (h11 : b 11 = false) (h12 : b 12 = false) : deLo th tr c n L0 b r = [] ++ (oneD r.b6 (repC 0 0 (.slice none 0 0)) tr ++ (oneD r.b5 zeroH.cells th ++ L0)) := by
 simp only [deLo, hE, h11, h12, rqD, hqD, Bool.false_eq_true, if_false]
theorem deLo_call (h11 : b 11 = false) (h12 : b 12 = false) (F' : Addr → Value → Prop) (E' : List (Nat × Obj)) (q' : QD) : E' ++ (oneD r.b6 (repC 0 0 (.slice none 0 0)) tr ++ (oneD r.b5 zeroH.cells th ++ L0)) = deLo th tr c n L0 (setf b 5) ⟨F', E', r.b5, r.b6, q'⟩ := by
 have e1 : setf b 5 11 = false := h11
 have e2 : setf b 5 12 = false := h12
 simp only [deLo, e1, e2, rqD, hqD, Bool.false_eq_true, if_false]
theorem deLo_alloc5 (h5 : r.b5 = none) (h11 : b 11 = false) (x : Nat) : ((x, Obj.cells zeroH.cells th (0, 0)) :: deLo th tr c n L0 b r).Perm (deLo th tr c n L0 (setf b 9) ⟨r.F, r.E, some x, r.b6, r.q⟩) := by
 have e1 : setf b 9 11 = false := h11
 have e2 : setf b 9 12 = b 12 := rfl
 simp only [deLo, h5, h11, e1, e2, oneD, hqD, Bool.false_eq_true, if_false]
 rw [← List.append_assoc, ← List.append_assoc r.E]
 exact List.perm_middle.symm
theorem deLo_alloc6 (h6 : r.b6 = none) (h12 : b 12 = false) (x : Nat) : ((x, Obj.cells (repC 0 0 (.slice none 0 0)) tr (0, 0)) :: deLo th tr c n L0 b r).Perm (deLo th tr c n L0 (setf b 10) ⟨r.F, r.E, r.b5, some x, r.q⟩) := by
 have e1 : setf b 10 12 = false := h12
 have e2 : setf b 10 11 = b 11 := rfl
 simp only [deLo, h6, h12, e1, e2, oneD, rqD, Bool.false_eq_true, if_false]
 exact List.perm_middle.symm
theorem deLo_b5 {x : Nat} (h5 : r.b5 = some x) (h11 : b 11 = false) : deLo th tr c n L0 b r = r.E ++ (oneD r.b6 (rqD (b 12) c n r.q) tr ++ ((x, Obj.cells zeroH.cells th (0, 0)) :: L0)) := by
 simp only [deLo, h5, h11, oneD, hqD, Bool.false_eq_true, if_false]
 rfl
theorem deLo_st5 {x : Nat} (h5 : r.b5 = some x) {h : H} {a : Option Addr} {m k : Nat} (hq' : r.q = some (h, a, m, k)) : r.E ++ (oneD r.b6 (rqD (b 12) c n r.q) tr ++ ((x, Obj.cells h.cells th (0, 0)) :: L0)) = deLo th tr c n L0 (setf b 11) r := by
 have e1 : setf b 11 11 = true := rfl
 have e2 : setf b 11 12 = b 12 := rfl
 simp only [deLo, h5, hq', e1, e2, oneD, hqD, if_true]
 rfl
theorem deLo_b6 {x : Nat} (h6 : r.b6 = some x) (h12 : b 12 = false) : deLo th tr c n L0 b r = r.E ++ ((x, Obj.cells (repC 0 0 (.slice none 0 0)) tr (0, 0)) :: (oneD r.b5 (hqD (b 11) r.q) th ++ L0)) := by
 simp only [deLo, h6, h12, oneD, rqD, Bool.false_eq_true, if_false]
 rfl
theorem deLo_st6 {x : Nat} (h6 : r.b6 = some x) {h : H} {a : Option Addr} {m k : Nat} (hq' : r.q = some (h, a, m, k)) : r.E ++ ((x, Obj.cells (repC c n (.slice a m k)) tr (0, 0)) :: (oneD r.b5 (hqD (b 11) r.q) th ++ L0)) = deLo th tr c n L0 (setf b 12) r := by
 have e1 : setf b 12 12 = true := rfl
 have e2 : setf b 12 11 = b 11 := rfl
 simp only [deLo, h6, hq', e1, e2, oneD, rqD, if_true]
 rfl
theorem deLo_all {x y : Nat} (h5 : r.b5 = some x) (h6 : r.b6 = some y) {h : H} {a : Option Addr} {m k : Nat} (hq' : r.q = some (h, a, m, k)) (h11 : b 11 = true) (h12 : b 12 = true) : deLo th tr c n L0 b r = r.E ++ ((y, Obj.cells (repC c n (.slice a m k)) tr (0, 0)) :: (x, Obj.cells h.cells th (0, 0)) :: L0) := by
 simp only [deLo, h5, h6, hq', h11, h12, oneD, rqD, hqD, if_true]
 rfl
end
def psiD (bp : Nat) (h : H) (a : ActS) (c n : Int) (d : Nat) (v : Value) (r : DE) : Prop :=
 if d = 10 then v = .pointer (some ⟨bp, 0, none⟩) else if d = 11 then v = .pointer (some ⟨bp, 0, none⟩) else if d = 12 then v = .pointer (some ⟨bp, 0 + 0, none⟩) else if d = 13 then v = .agg h.cells else if d = 14 then v = .agg a.cells
 else if d = 15 then (∃ x y m z, r.q = some (x, y, m, z) ∧ v = .tuple #[.agg x.cells, .agg (repC c n (.slice y m z))])
 else if d = 9 then (∃ x y m z, r.q = some (x, y, m, z) ∧ v = .tuple #[.agg x.cells, .agg (repC c n (.slice y m z))])
 else if d = 16 then (∃ x y m z, r.q = some (x, y, m, z) ∧ v = .agg x.cells) else if d = 17 then (∃ x y m z, r.q = some (x, y, m, z) ∧ v = .agg (repC c n (.slice y m z)))
 else if d = 5 then (∃ x, r.b5 = some x ∧ v = .pointer (some ⟨x, 0, none⟩)) else if d = 6 then (∃ x, r.b6 = some x ∧ v = .pointer (some ⟨x, 0, none⟩)) else True
theorem psiD_stab {bp : Nat} {h : H} {a : ActS} {c n : Int} (d : Nat) (v : Value) (r r' : DE) (hle : DE.Le r r') (hp : psiD bp h a c n d v r) : psiD bp h a c n d v r' := by
 unfold psiD at hp ⊢
 by_cases h1 : d = 10
 · rw [if_pos h1] at hp ⊢; exact hp
 rw [if_neg h1] at hp ⊢
 by_cases h2 : d = 11
 · rw [if_pos h2] at hp ⊢; exact hp
 rw [if_neg h2] at hp ⊢
 by_cases h3 : d = 12
 · rw [if_pos h3] at hp ⊢; exact hp
 rw [if_neg h3] at hp ⊢
 by_cases h4 : d = 13
 · rw [if_pos h4] at hp ⊢; exact hp
 rw [if_neg h4] at hp ⊢
 by_cases h5 : d = 14
 · rw [if_pos h5] at hp ⊢; exact hp
 rw [if_neg h5] at hp ⊢
 by_cases h6 : d = 15
 · rw [if_pos h6] at hp ⊢; obtain ⟨x, y, m, z, e1, e2⟩ := hp; exact ⟨x, y, m, z, hle.q _ e1, e2⟩
 rw [if_neg h6] at hp ⊢
 by_cases h7 : d = 9
 · rw [if_pos h7] at hp ⊢; obtain ⟨x, y, m, z, e1, e2⟩ := hp; exact ⟨x, y, m, z, hle.q _ e1, e2⟩
 rw [if_neg h7] at hp ⊢
 by_cases h8 : d = 16
 · rw [if_pos h8] at hp ⊢; obtain ⟨x, y, m, z, e1, e2⟩ := hp; exact ⟨x, y, m, z, hle.q _ e1, e2⟩
 rw [if_neg h8] at hp ⊢
 by_cases h9 : d = 17
 · rw [if_pos h9] at hp ⊢; obtain ⟨x, y, m, z, e1, e2⟩ := hp; exact ⟨x, y, m, z, hle.q _ e1, e2⟩
 rw [if_neg h9] at hp ⊢
 by_cases h10 : d = 5
 · rw [if_pos h10] at hp ⊢; obtain ⟨x, e1, e2⟩ := hp; exact ⟨x, hle.b5 _ e1, e2⟩
 rw [if_neg h10] at hp ⊢
 by_cases h11 : d = 6
 · rw [if_pos h11] at hp ⊢; obtain ⟨x, e1, e2⟩ := hp; exact ⟨x, hle.b6 _ e1, e2⟩
 rw [if_neg h11] at hp ⊢
 exact hp
end Go.Proofs.YtmkboljfbmlebacGreat
namespace Go.Proofs.YtmkboljfbmlebacGreat
open Go.RowKit
set_option linter.unusedSimpArgs false
set_option linter.unusedVariables false
set_option maxRecDepth 100000
attribute [local irreducible] cC sC nC rC qw
set_option maxHeartbeats 2000000 in
theorem g_open (F : Addr → Value → Prop) (h : H) (b : Nat) (ps : List PayS) (tx : List Nat) (dn : Bool) (fl : Int) (na : Nat) (hbt : Byt tx) (hp : PaysIn F h.pa h.pl ps) (hlc : h.pl ≤ h.pc) (hps24 : ps.length ≤ 24) (htx : tx.length ≤ 4000) : GivesW Tryz.prog 19 [.pointer (some ⟨b, 0, none⟩)] F ([(b, .cells (bankD h (tx) (!dn) (na : Nat) (decide (0 ≤ fl)) (keptOf fl)) 55 (0, 0))]) (DoR 55 b (openM (⟨h.core, ps, tx, dn, fl, na⟩ : BankS))) := by
 refine givesW_of Tryz.func19 rfl Tryz.ntmps19 (by simp) (fun w K => ?_)
 refine r_seq (by kernel_rfl) (s_alloc (z := .agg (repC 0 0 (.slice none 0 0))) (by kernel_rfl) (fun b2 => ?_))
 refine s_nil (c_seq (r_seq (by kernel_rfl) (s_val (v_move (v := .pointer _) rfl) (s_val (v_nilCheck rfl) (s_val (v_fd 43 (by kernel_rfl) rfl) (s_val (v_load1 (v := .bool _) (by kernel_rfl) rfl (.there .here) (bankD_up _ _ _ _ _ _)) (s_nil (c_cond rfl rfl (fun h8 => ?_) (fun h8 => ?_)))))))))
 · refine r_seq (by kernel_rfl) (s_call (by kernel_rfl) (fun w hw => g_failed _ w) (s_storeA (m := 3) (by kernel_rfl) rfl rfl .here rfl rfl rep_all (s_nil (c_ret (n_ret ?_)))))
   have q1 : dn = false := by cases dn with | false => rfl | true => cases h8
   refine n_doneWD (m := 3) rfl (by decide) rfl (by kernel_rfl) .here rep_size (fun w1 hw => ?_)
   exact ⟨[(b, .cells (bankD h (tx) (!dn) (na : Nat) (decide (0 ≤ fl)) (keptOf fl)) 55 (0, 0))], F, (fun _ _ h => h), has_one (hw.sub (List.Sublist.cons _ (List.Sublist.cons_cons _ (List.Sublist.refl _)))), doR_err (by simp only [openM, q1, Bool.not_false, cond_true]) hp hlc⟩
 refine c_skip (n_then (r_seq (by kernel_rfl) (s_val (v_move (v := .pointer _) rfl) (s_val (v_nilCheck rfl) (s_val (v_fd 42 (by kernel_rfl) rfl) (s_val (v_load1 (v := .string _) (by kernel_rfl) rfl (.there .here) (bankD_text _ _ _ _ _ _)) (s_callG (by kernel_rfl) (readF_mono _) (fun w hw => g_Read tx w hbt (by omega)) (fun F15 v15 hF15 hR15 => ?_))))))))
 obtain ⟨v15b, rfl, hin15⟩ := hR15
 obtain ⟨a15, c15, rfl, hac0⟩ := hin15.at
 have hac := hac0.mono (more_young w F15)
 have hrf := read_factsD tx
 refine s_val (v_move (v := .tuple _) rfl) (s_val (v_extract rfl rfl) (s_val (v_extract rfl rfl) (s_val (v_assign (v := .slice _ _ _) rfl) (s_val (v_asI rfl) (s_nil (r_seq (by kernel_rfl) (s_val (v_move (v := .pointer _) rfl) (s_val (v_move (v := .pointer _) rfl) (s_val (v_nilCheck rfl) (s_val (v_fd 42 (by kernel_rfl) rfl) (s_val (v_load1 (v := .string _) (by kernel_rfl) rfl (.there .here) (bankD_text _ _ _ _ _ _)) (s_val (v_mvI rfl) (s_val (v_strHi (by kernel_rfl) rfl rfl ⟨by omega, by omega⟩) (s_val (v_nilCheck rfl) (s_val (v_fd 42 (by kernel_rfl) rfl) (s_store1 (v := .string _) (by kernel_rfl) rfl rfl (.there .here) (bankD_setText _ _ _ _ _ _) rfl (s_nil (r_seq (by kernel_rfl) (s_val (v_move (v := .pointer _) rfl) ?_)))))))))))))))))))
 refine s_val (v_move (v := .slice _ _ _) rfl) (s_callG (by kernel_rfl) (replayF_mono _) (fun w hw => g_Replay a15 c15 (readM tx) w (hac.at hw) (by omega)) (fun F29 v29 hF29 hR29 => ?_))
 obtain ⟨hx, rfl, hcx, hlx, _, hpx⟩ := hR29
 refine s_val (v_nilCheck rfl) (s_val (v_fd 0 (by kernel_rfl) rfl) (s_storeP (m := 42) (by kernel_rfl) rfl rfl (.there .here) (by rw [bankD_size]; omega) (H.size _) (bankD_over _ _ _ _ _ _ _) (H.all1 _) (s_nil (r_seq (by kernel_rfl) (s_val (v_move (v := .pointer _) rfl) (s_val (v_nilCheck rfl) (s_val (v_fd 43 (by kernel_rfl) rfl) (s_store1 (v := .bool _) (by kernel_rfl) rfl rfl (.there .here) (bankD_setUp _ _ _ _ _ _) rfl (s_nil (r_seq (by kernel_rfl) (s_val (v_move (v := .slice _ _ _) rfl) (s_val (v_lenS (T := 22) (m := 5) (by kernel_rfl) rfl rfl) (s_val (v_build (vs := [(1, .int .i64 _)]) (cs := repC 0 ((readM tx).length : Int) (.slice none 0 0)) rfl (by kernel_rfl)) (s_storeA (m := 3) (by kernel_rfl) rfl rfl .here rfl rfl rep_all (s_nil (c_ret ?_))))))))))))))))
 have q1 : dn = true := by cases dn with | true => rfl | false => cases h8
 refine n_doneWD (m := 3) rfl (by decide) rfl (by kernel_rfl) .here rep_size (fun w1 hw => ?_)
 refine ⟨[(b, .cells (bankD hx (bytesOf (readM tx)) true (na : Nat) (decide (0 ≤ fl)) (keptOf fl)) 55 (0, 0))], F29, fun a v h => hF29 a v (hF15 a v h), by have e := hrf.2.2; have h2 := hw.sub (List.Sublist.cons _ (List.Sublist.cons_cons _ (List.Sublist.refl _))); rw [e] at h2; exact has_one h2, ?_⟩
 simp only [openM, q1, Bool.not_true, cond_false]
 exact ⟨_, [], _, rfl, rfl, intsO_nil, hx, rfl, hcx, hpx.mono (more_young _ _), hlx⟩
set_option maxHeartbeats 2000000 in
theorem g_schedule (F : Addr → Value → Prop) (h : H) (b : Nat) (ps : List PayS) (tx : List Nat) (dn : Bool) (fl : Int) (na : Nat) (n : Int) (hp : PaysIn F h.pa h.pl ps) (hlc : h.pl ≤ h.pc) (hps24 : ps.length ≤ 24) (htx : tx.length ≤ 4000) : GivesW Tryz.prog 20 [.pointer (some ⟨b, 0, none⟩), I n] F ([(b, .cells (bankD h (tx) (!dn) (na : Nat) (decide (0 ≤ fl)) (keptOf fl)) 55 (0, 0))]) (DoR 55 b (schedM (⟨h.core, ps, tx, dn, fl, na⟩ : BankS) n)) := by
 refine givesW_of Tryz.func20 rfl Tryz.ntmps20 (by simp) (fun w K => ?_)
 refine r_seq (by kernel_rfl) (s_alloc (z := .agg (repC 0 0 (.slice none 0 0))) (by kernel_rfl) (fun b4 => ?_))
 refine s_nil (c_seq (r_seq (by kernel_rfl) (s_val (v_mvI rfl) (s_call (by kernel_rfl) (fun w hw => g_withinB _ _ _ w) (s_val (v_not rfl) (s_nil (c_condN rfl rfl (fun h7 => ?_) (fun h7 => ?_))))))))
 · refine r_seq (by kernel_rfl) (s_call (by kernel_rfl) (fun w hw => g_failed _ w) (s_storeA (m := 3) (by kernel_rfl) rfl rfl .here rfl rfl rep_all (s_nil (c_ret (n_ret (n_doneWD (m := 3) rfl (by decide) rfl (by kernel_rfl) .here rep_size (fun w1 hw => ?_)))))))
   exact ⟨[(b, .cells (bankD h (tx) (!dn) (na : Nat) (decide (0 ≤ fl)) (keptOf fl)) 55 (0, 0))], F, (fun _ _ h => h), has_one (hw.sub (List.Sublist.cons _ (List.Sublist.cons_cons _ (List.Sublist.refl _)))), doR_err (by simp only [schedM, h7, Bool.not_false, cond_true]) hp hlc⟩
 refine c_skip (n_then (r_seq (by kernel_rfl) (s_val (v_move (v := .pointer _) rfl) (s_val (v_move (v := .pointer _) rfl) (s_val (v_mvI rfl) (s_val (v_nilCheck rfl) (s_val (v_fd 45 (by kernel_rfl) rfl) (s_store1 (v := .bool _) (by kernel_rfl) rfl rfl (.there .here) (bankD_setFails _ _ _ _ _ _) rfl (s_val (v_nilCheck rfl) (s_val (v_fd 46 (by kernel_rfl) rfl) (s_store1 (v := .int .i64 _) (by kernel_rfl) rfl rfl (.there .here) (bankD_setKept _ _ _ _ _ _) rfl (s_nil (r_seq (by kernel_rfl) (s_val (v_build (vs := []) (cs := repC 0 0 (.slice none 0 0)) rfl (by kernel_rfl)) (s_storeA (m := 3) (by kernel_rfl) rfl rfl .here rfl rfl rep_all (s_nil (c_ret ?_)))))))))))))))))
 have hwn := within_iff.1 h7
 refine n_doneWD (m := 3) rfl (by decide) rfl (by kernel_rfl) .here rep_size (fun w1 hw => ?_)
 refine ⟨[(b, .cells (bankD h (tx) (!dn) (na : Nat) (decide (0 ≤ n)) (keptOf n)) 55 (0, 0))], F, (fun _ _ h => h), by rw [decide_eq_true hwn.1, show keptOf n = n from if_pos hwn.1]; exact has_one (hw.sub (List.Sublist.cons _ (List.Sublist.cons_cons _ (List.Sublist.refl _)))), ?_⟩
 simp only [schedM, h7, Bool.not_true, cond_false]
 exact ⟨_, [], _, rfl, rfl, intsO_nil, h, rfl, rfl, hp, hlc⟩
set_option maxHeartbeats 2000000 in
theorem g_execute (F : Addr → Value → Prop) (h : H) (b : Nat) (ps : List PayS) (tx : List Nat) (dn : Bool) (fl : Int) (na : Nat) (a : ActS) (hp : PaysIn F h.pa h.pl ps) (hlc : h.pl ≤ h.pc) (hps24 : ps.length ≤ 24) (htx : tx.length ≤ 4000) : GivesW Tryz.prog 21 [.pointer (some ⟨b, 0, none⟩), .agg a.cells] F ([(b, .cells (bankD h (tx) (!dn) (na : Nat) (decide (0 ≤ fl)) (keptOf fl)) 55 (0, 0))]) (DoR 55 b (execM (⟨h.core, ps, tx, dn, fl, na⟩ : BankS) a)) := by
 refine givesW_of Tryz.func21 rfl Tryz.ntmps21 (by simp) (fun w K => ?_)
 have hfl28 := fText_lenD a
 have hb : h.pl * 48 ≤ 281474976710656 := by have := hp.1; omega
 refine r_seq (by kernel_rfl) (s_box (v := .agg _) rfl (fun b3 => ?_))
 refine s_alloc (z := .agg (repC 0 0 (.slice none 0 0))) (by kernel_rfl) (fun b4 => ?_)
 refine s_nil (d_gen (ρ := DE) (Fo := fun r => r.F) (Lo := deLo 43 31 (nextM h.core ps a).code (nextM h.core ps a).n ((b4, .cells ((repC 0 0 (.slice none 0 0))) 31) :: (b3, .cells a.cells 34) :: (b, .cells (bankD h (tx) (!dn) (na : Nat) (decide (0 ≤ fl)) (keptOf fl)) 55 (0, 0)) :: K)) (G := deG F (fun F1 (E1 : List (Nat × Obj)) (k : H) (y : Option Addr) (m z : Nat) => k.core = (nextM h.core ps a).c ∧ k.pl ≤ k.pc ∧ PaysIn F1 k.pa k.pl (nextM h.core ps a).ps ∧ ListE 3 1 (.slice y m z) (nextM h.core ps a).done.length ((nextM h.core ps a).done.map I) E1)) (le := DE.Le) (Ψ := psiD b h a (nextM h.core ps a).code (nextM h.core ps a).n) (by kernel_rfl) (by kernel_rfl) (by kernel_rfl) ⟨F, [], none, none, none⟩ rfl rfl ⟨fun _ _ h => h, fun _ => rfl, fun _ => rfl, fun _ => ⟨rfl, rfl⟩, (fun _ _ _ _ h => (by cases h)), (fun h => (by cases h)), (fun h => (by cases h))⟩ psiD_stab ?_ ?_)
 · intro i o ho
   match i, ho with
   | 0, ho =>
     obtain rfl := Option.some.inj ho
     intro b1 r g hbi hed hG hl
     have e0 : g 0 = .pointer (some ⟨b, 0, none⟩) := (hl 0 (dK (by kernel_rfl))).2 (dK (by kernel_rfl))
     refine s_val (v_move (v := .pointer (some ⟨b, 0, none⟩)) e0) ?_
     exact s_fin (fun w1 hw => ⟨_, r, rfl, .refl r, ⟨hG.more, hG.b5, hG.b6, hG.q, hG.has, hG.h11, hG.h12⟩, hw, fun d hd => (by cases hd; exact rfl)⟩)
   | 1, ho =>
     obtain rfl := Option.some.inj ho
     intro b1 r g hbi hed hG hl
     have e10 : g 10 = .pointer (some ⟨b, 0, none⟩) := (hl 10 (dK (by kernel_rfl))).1 (dK (by kernel_rfl))
     refine s_val (v_nilCheck e10) ?_
     exact s_fin (fun w1 hw => ⟨_, r, rfl, .refl r, ⟨hG.more, hG.b5, hG.b6, hG.q, hG.has, hG.h11, hG.h12⟩, hw, fun d hd => (by cases hd; exact rfl)⟩)
   | 2, ho =>
     obtain rfl := Option.some.inj ho
     intro b1 r g hbi hed hG hl
     have e11 : g 11 = .pointer (some ⟨b, 0, none⟩) := (hl 11 (dK (by kernel_rfl))).1 (dK (by kernel_rfl))
     refine s_val (v_fd 0 (by kernel_rfl) e11) ?_
     exact s_fin (fun w1 hw => ⟨_, r, rfl, .refl r, ⟨hG.more, hG.b5, hG.b6, hG.q, hG.has, hG.h11, hG.h12⟩, hw, fun d hd => (by cases hd; exact rfl)⟩)
   | 3, ho =>
     obtain rfl := Option.some.inj ho
     intro b1 r g hbi hed hG hl
     have e12 : g 12 = .pointer (some ⟨b, 0 + 0, none⟩) := (hl 12 (dK (by kernel_rfl))).1 (dK (by kernel_rfl))
     refine s_val (v_loadN (m := 42) (cs' := h.cells) (by kernel_rfl) e12 (.app (.app (.app (.there (.there .here))))) (H.size _) (bankD_house _ _ _ _ _ _)) ?_
     exact s_fin (fun w1 hw => ⟨_, r, rfl, .refl r, ⟨hG.more, hG.b5, hG.b6, hG.q, hG.has, hG.h11, hG.h12⟩, hw, fun d hd => (by cases hd; exact rfl)⟩)
   | 4, ho =>
     obtain rfl := Option.some.inj ho
     intro b1 r g hbi hed hG hl
     have e3 : g 3 = .pointer (some ⟨b3, 0, none⟩) := (hl 3 (dK (by kernel_rfl))).2 (dK (by kernel_rfl))
     refine s_val (v_loadA (m := 5) (by kernel_rfl) e3 (.app (.app (.app (.there .here)))) rfl) ?_
     exact s_fin (fun w1 hw => ⟨_, r, rfl, .refl r, ⟨hG.more, hG.b5, hG.b6, hG.q, hG.has, hG.h11, hG.h12⟩, hw, fun d hd => (by cases hd; exact rfl)⟩)
   | 5, ho =>
     obtain rfl := Option.some.inj ho
     intro b1 r g hbi hed hG hl
     have e13 : g 13 = .agg h.cells := (hl 13 (dK (by kernel_rfl))).1 (dK (by kernel_rfl))
     have e14 : g 14 = .agg a.cells := (hl 14 (dK (by kernel_rfl))).1 (dK (by kernel_rfl))
     have h11f : b1 11 = false := by cases e : b1 11 with | false => rfl | true => (have := (hG.h11 e).2; rw [hbi] at this; cases this)
     have h12f : b1 12 = false := by cases e : b1 12 with | false => rfl | true => (have := (hG.h12 e).2; rw [hbi] at this; cases this)
     have hE0 := (hG.q hbi).2
     refine s_weak (fun w1 hw => (show Has w r.F _ w1 from (by rw [deLo_before hE0 h11f h12f] at hw; exact hw))) (s_callV (by kernel_rfl) (show GivesV _ _ [g 13, g 14] r.F [] (NextV 3 (nextM h.core ps a)) from (by rw [e13, e14]; exact g_Next r.F h ps a (hp.mono hG.more) (by have := hp.1; omega))) (fun F15 v15 E15 hF15 hR15 => ?_))
     obtain ⟨hx, vx, rfl, hcx, hlx, hpx, hdx⟩ := hR15
     obtain ⟨ax, mx, cx, rfl⟩ := hdx.shape3
     refine s_fin (fun w1 hw => ⟨_, ⟨F15, E15, r.b5, r.b6, some (hx, ax, mx, cx)⟩, rfl, ⟨hF15, fun _ h => h, fun _ h => h, (fun _ h => (by rw [(hG.q hbi).1] at h; cases h))⟩, ⟨fun a v h => hF15 a v (hG.more a v h), hG.b5, hG.b6, (fun h => (by cases h)), fun k y m z e => (by cases e; exact ⟨hcx, hlx, hpx.mono (more_young _ _), hdx⟩), fun h => ⟨(hG.h11 h).1, rfl⟩, fun h => ⟨(hG.h12 h).1, rfl⟩⟩, ?_, fun d hd => (by cases hd; exact ⟨hx, ax, mx, cx, rfl, rfl⟩)⟩)
     rw [← deLo_call h11f h12f]; exact hw
   | 6, ho =>
     obtain rfl := Option.some.inj ho
     intro b1 r g hbi hed hG hl
     have e15 : ∃ x y m z, r.q = some (x, y, m, z) ∧ g 15 = .tuple #[.agg x.cells, .agg (repC (nextM h.core ps a).code (nextM h.core ps a).n (.slice y m z))] := (hl 15 (dK (by kernel_rfl))).1 (dK (by kernel_rfl))
     obtain ⟨x1, y1, m1, z1, q1, e15⟩ := e15
     refine s_val (v_move (v := .tuple _) e15) ?_
     exact s_fin (fun w1 hw => ⟨_, r, rfl, .refl r, ⟨hG.more, hG.b5, hG.b6, hG.q, hG.has, hG.h11, hG.h12⟩, hw, fun d hd => (by cases hd; exact ⟨x1, y1, m1, z1, q1, rfl⟩)⟩)
   | 7, ho =>
     obtain rfl := Option.some.inj ho
     intro b1 r g hbi hed hG hl
     have e9 : ∃ x y m z, r.q = some (x, y, m, z) ∧ g 9 = .tuple #[.agg x.cells, .agg (repC (nextM h.core ps a).code (nextM h.core ps a).n (.slice y m z))] := (hl 9 (dK (by kernel_rfl))).1 (dK (by kernel_rfl))
     obtain ⟨x1, y1, m1, z1, q1, e9⟩ := e9
     refine s_val (v_extract e9 rfl) ?_
     exact s_fin (fun w1 hw => ⟨_, r, rfl, .refl r, ⟨hG.more, hG.b5, hG.b6, hG.q, hG.has, hG.h11, hG.h12⟩, hw, fun d hd => (by cases hd; exact ⟨x1, y1, m1, z1, q1, rfl⟩)⟩)
   | 8, ho =>
     obtain rfl := Option.some.inj ho
     intro b1 r g hbi hed hG hl
     have e9 : ∃ x y m z, r.q = some (x, y, m, z) ∧ g 9 = .tuple #[.agg x.cells, .agg (repC (nextM h.core ps a).code (nextM h.core ps a).n (.slice y m z))] := (hl 9 (dK (by kernel_rfl))).1 (dK (by kernel_rfl))
     obtain ⟨x1, y1, m1, z1, q1, e9⟩ := e9
     refine s_val (v_extract e9 rfl) ?_
     exact s_fin (fun w1 hw => ⟨_, r, rfl, .refl r, ⟨hG.more, hG.b5, hG.b6, hG.q, hG.has, hG.h11, hG.h12⟩, hw, fun d hd => (by cases hd; exact ⟨x1, y1, m1, z1, q1, rfl⟩)⟩)
   | 9, ho =>
     obtain rfl := Option.some.inj ho
     intro b1 r g hbi hed hG hl
     have h11f : b1 11 = false := by cases e : b1 11 with | false => rfl | true => (have := (hG.h11 e).1; rw [hbi] at this; cases this)
     refine s_alloc (z := .agg zeroH.cells) (by kernel_rfl) (fun bn => ?_)
     exact s_fin (fun w1 hw => ⟨_, ⟨r.F, r.E, some bn, r.b6, r.q⟩, rfl, ⟨fun _ _ h => h, (fun _ h => (by rw [hG.b5 hbi] at h; cases h)), fun _ h => h, fun _ h => h⟩, ⟨hG.more, (fun h => (by cases h)), hG.b6, hG.q, hG.has, fun h => ⟨rfl, (hG.h11 h).2⟩, hG.h12⟩, hw.perm (deLo_alloc5 (hG.b5 hbi) h11f bn), fun d hd => (by cases hd; exact ⟨bn, rfl, rfl⟩)⟩)
   | 10, ho =>
     obtain rfl := Option.some.inj ho
     intro b1 r g hbi hed hG hl
     have h12f : b1 12 = false := by cases e : b1 12 with | false => rfl | true => (have := (hG.h12 e).1; rw [hbi] at this; cases this)
     refine s_alloc (z := .agg (repC 0 0 (.slice none 0 0))) (by kernel_rfl) (fun bn => ?_)
     exact s_fin (fun w1 hw => ⟨_, ⟨r.F, r.E, r.b5, some bn, r.q⟩, rfl, ⟨fun _ _ h => h, fun _ h => h, (fun _ h => (by rw [hG.b6 hbi] at h; cases h)), fun _ h => h⟩, ⟨hG.more, hG.b5, (fun h => (by cases h)), hG.q, hG.has, hG.h11, fun h => ⟨rfl, (hG.h12 h).2⟩⟩, hw.perm (deLo_alloc6 (hG.b6 hbi) h12f bn), fun d hd => (by cases hd; exact ⟨bn, rfl, rfl⟩)⟩)
   | 11, ho =>
     obtain rfl := Option.some.inj ho
     intro b1 r g hbi hed hG hl
     have e5 : ∃ x, r.b5 = some x ∧ g 5 = .pointer (some ⟨x, 0, none⟩) := (hl 5 (dK (by kernel_rfl))).1 (dK (by kernel_rfl))
     have e16 : ∃ x y m z, r.q = some (x, y, m, z) ∧ g 16 = .agg x.cells := (hl 16 (dK (by kernel_rfl))).1 (dK (by kernel_rfl))
     obtain ⟨bx, qb, e5⟩ := e5
     obtain ⟨x1, y1, m1, z1, q1, e16⟩ := e16
     have hed9 : b1 9 = true := by cases e : b1 9 with | true => rfl | false => (have := hG.b5 e; rw [qb] at this; cases this)
     have hed5 : b1 5 = true := by cases e : b1 5 with | true => rfl | false => (have := (hG.q e).1; rw [q1] at this; cases this)
     refine s_weak (fun w1 hw => (show Has w r.F _ w1 from (by rw [deLo_b5 qb hbi] at hw; exact hw))) (s_storeA (m := 42) (by kernel_rfl) e5 e16 (.app (.app .here)) (H.size _) (H.size _) (H.all1 _) (s_fin (fun w1 hw => ⟨undef, r, rfl, .refl r, ⟨hG.more, hG.b5, hG.b6, hG.q, hG.has, fun _ => ⟨hed9, hed5⟩, hG.h12⟩, ?_, fun d hd => (by cases hd)⟩)))
     rw [← deLo_st5 qb q1]; exact hw
   | 12, ho =>
     obtain rfl := Option.some.inj ho
     intro b1 r g hbi hed hG hl
     have e6 : ∃ x, r.b6 = some x ∧ g 6 = .pointer (some ⟨x, 0, none⟩) := (hl 6 (dK (by kernel_rfl))).1 (dK (by kernel_rfl))
     have e17 : ∃ x y m z, r.q = some (x, y, m, z) ∧ g 17 = .agg (repC (nextM h.core ps a).code (nextM h.core ps a).n (.slice y m z)) := (hl 17 (dK (by kernel_rfl))).1 (dK (by kernel_rfl))
     obtain ⟨bx, qb, e6⟩ := e6
     obtain ⟨x1, y1, m1, z1, q1, e17⟩ := e17
     have hed10 : b1 10 = true := by cases e : b1 10 with | true => rfl | false => (have := hG.b6 e; rw [qb] at this; cases this)
     have hed5 : b1 5 = true := by cases e : b1 5 with | true => rfl | false => (have := (hG.q e).1; rw [q1] at this; cases this)
     refine s_weak (fun w1 hw => (show Has w r.F _ w1 from (by rw [deLo_b6 qb hbi] at hw; exact hw))) (s_storeA (m := 3) (by kernel_rfl) e6 e17 (.app .here) rep_size rep_size rep_all (s_fin (fun w1 hw => ⟨undef, r, rfl, .refl r, ⟨hG.more, hG.b5, hG.b6, hG.q, hG.has, hG.h11, fun _ => ⟨hed10, hed5⟩⟩, ?_, fun d hd => (by cases hd)⟩)))
     rw [← deLo_st6 qb q1]; exact hw
   | n + 13, ho => cases ho
 intro b18 r1 g hall hG hd he
 obtain ⟨b5, q5, e5⟩ : ∃ x, r1.b5 = some x ∧ g 5 = .pointer (some ⟨x, 0, none⟩) := hd 5 (dK (by kernel_rfl))
 obtain ⟨b6, q6, e6⟩ : ∃ x, r1.b6 = some x ∧ g 6 = .pointer (some ⟨x, 0, none⟩) := hd 6 (dK (by kernel_rfl))
 obtain ⟨hx, ax, mx, cx, qq, _⟩ : ∃ x y m z, r1.q = some (x, y, m, z) ∧ g 16 = .agg x.cells := hd 16 (dK (by kernel_rfl))
 obtain ⟨hcx, hlx, hpx, hdx⟩ := hG.has _ _ _ _ qq
 have hmr := hG.more
 rw [deLo_all q5 q6 qq (hall 11 (by decide)) (hall 12 (by decide))]
 have e0 : g 0 = .pointer (some ⟨b, 0, none⟩) := he 0 (dK (by kernel_rfl))
 have e3 : g 3 = .pointer (some ⟨b3, 0, none⟩) := he 3 (dK (by kernel_rfl))
 have e4 : g 4 = .pointer (some ⟨b4, 0, none⟩) := he 4 (dK (by kernel_rfl))
 obtain ⟨g1, hg1⟩ : ∃ g1, g = (upd (upd (upd (upd (upd g1 0 (.pointer (some ⟨b, 0, none⟩))) 3 (.pointer (some ⟨b3, 0, none⟩))) 4 (.pointer (some ⟨b4, 0, none⟩))) 5 (.pointer (some ⟨b5, 0, none⟩))) 6 (.pointer (some ⟨b6, 0, none⟩))) := ⟨g, live5 e0 e3 e4 e5 e6⟩
 rw [hg1]
 refine c_seq (r_seq (by kernel_rfl) (s_val (v_fd 0 (by kernel_rfl) rfl) (s_val (v_ldI (by kernel_rfl) rfl (.app .here) rfl) (s_val (v_neq (k := .i64) rfl rfl) (s_nil (c_condN rfl rfl (fun h20 => ?_) (fun h20 => ?_)))))))
 · refine r_seq (by kernel_rfl) (s_val (v_loadA (m := 3) (by kernel_rfl) rfl (.app .here) rfl) (s_storeA (m := 3) (by kernel_rfl) rfl rfl (.app (.there (.there .here))) rfl rfl rep_all (s_nil (c_ret (n_ret ?_)))))
   have q6 : decide ((nextM h.core ps a).code = 0) = false := h20
   refine n_doneWD (m := 3) rfl (by decide) rfl (by kernel_rfl) (.app (.there (.there .here))) rep_size (fun w1 hw => ?_)
   refine ⟨r1.E ++ [(b, .cells (bankD h (tx) (!dn) (na : Nat) (decide (0 ≤ fl)) (keptOf fl)) 55 (0, 0))], r1.F, hmr, has_last (hw.sub (List.Sublist.append (List.Sublist.refl _) (List.Sublist.cons _ (List.Sublist.cons _ (List.Sublist.cons _ (List.Sublist.cons _ (List.Sublist.cons_cons _ (List.Sublist.refl _)))))))), ?_⟩
   exact doR_rep (q := (nextM h.core ps a)) (by simp only [execM, q6, cond_true, cond_false, Bool.not_true, Bool.not_false, Bool.or_true, Bool.true_or, Bool.or_false, Bool.false_or]) rfl (hp.mono hmr) hlc hdx
 refine c_skip (n_then (r_seq (by kernel_rfl) (s_val (v_loadA (m := 5) (by kernel_rfl) rfl (.app (.there (.there (.there .here)))) rfl) (s_call (by kernel_rfl) (fun w hw => g_Frame a w) (s_val (v_move (v := .tuple _) rfl) (s_val (v_extract rfl rfl) (s_val (v_extract rfl rfl) (s_val (v_assign (v := S _) rfl) (s_val (v_asI rfl) (s_nil (c_seq (r_seq (by kernel_rfl) (s_val (v_mvI rfl) (s_val (v_neq (k := .i64) rfl rfl) (s_nil (c_condN rfl rfl (fun h28 => ?_) (fun h28 => ?_)))))))))))))))))
 · refine r_seq (by kernel_rfl) (s_val (v_mvI rfl) (s_call (by kernel_rfl) (fun w hw => g_failed _ w) (s_storeA (m := 3) (by kernel_rfl) rfl rfl (.app (.there (.there .here))) rfl rfl rep_all (s_nil (c_ret (n_ret ?_))))))
   have q6 : decide ((nextM h.core ps a).code = 0) = true := h20
   have q7 : noted a = false := frame_codeD.2 (of_decide_eq_false h28)
   refine n_doneWD (m := 3) rfl (by decide) rfl (by kernel_rfl) (.app (.there (.there .here))) rep_size (fun w1 hw => ?_)
   rw [fErr_noD q7]
   exact ⟨[(b, .cells (bankD h (tx) (!dn) (na : Nat) (decide (0 ≤ fl)) (keptOf fl)) 55 (0, 0))], r1.F, hmr, has_one (hw.sub (List.Sublist.trans (List.Sublist.cons _ (List.Sublist.cons _ (List.Sublist.cons _ (List.Sublist.cons _ (List.Sublist.cons_cons _ (List.Sublist.refl _)))))) (List.sublist_append_right _ _))), doR_err (by simp only [execM, q6, q7, cond_true, cond_false, Bool.not_true, Bool.not_false, Bool.or_true, Bool.true_or, Bool.or_false, Bool.false_or]) (hp.mono hmr) hlc⟩
 refine c_skip (n_then (c_seq (r_seq (by kernel_rfl) (s_val (v_move (v := .pointer _) rfl) (s_val (v_nilCheck rfl) (s_val (v_fd 42 (by kernel_rfl) rfl) (s_val (v_load1 (v := .string _) (by kernel_rfl) rfl (.app (.there (.there (.there (.there .here))))) (bankD_text _ _ _ _ _ _)) (s_val (v_strLen (by kernel_rfl) rfl rfl) (s_val (v_move (v := S _) rfl) (s_val (v_strLen (by kernel_rfl) rfl rfl) (s_val (v_add rfl rfl (by omega)) (s_val (v_gtr (k := .i64) rfl rfl) (s_nil (c_cond rfl rfl (fun h39 => ?_) (fun h39 => ?_)))))))))))))))
 · refine r_seq (by kernel_rfl) (s_call (by kernel_rfl) (fun w hw => g_failed _ w) (s_storeA (m := 3) (by kernel_rfl) rfl rfl (.app (.there (.there .here))) rfl rfl rep_all (s_nil (c_ret (n_ret ?_)))))
   have q6 : decide ((nextM h.core ps a).code = 0) = true := h20
   have q7 : noted a = true := frame_codeD.1 (of_decide_eq_true h28)
   have q8 : decide (4000 < tx.length + (frameOf a).length) = true := decide_eq_true (by have := of_decide_eq_true h39; rw [fText_yesD q7] at this; omega)
   refine n_doneWD (m := 3) rfl (by decide) rfl (by kernel_rfl) (.app (.there (.there .here))) rep_size (fun w1 hw => ?_)
   exact ⟨[(b, .cells (bankD h (tx) (!dn) (na : Nat) (decide (0 ≤ fl)) (keptOf fl)) 55 (0, 0))], r1.F, hmr, has_one (hw.sub (List.Sublist.trans (List.Sublist.cons _ (List.Sublist.cons _ (List.Sublist.cons _ (List.Sublist.cons _ (List.Sublist.cons_cons _ (List.Sublist.refl _)))))) (List.sublist_append_right _ _))), doR_err (by simp only [execM, q6, q7, q8, cond_true, cond_false, Bool.not_true, Bool.not_false, Bool.or_true, Bool.true_or, Bool.or_false, Bool.false_or]) (hp.mono hmr) hlc⟩
 refine c_skip (n_then (c_seq (r_seq (by kernel_rfl) (s_val (v_move (v := .pointer _) rfl) (s_val (v_nilCheck rfl) (s_val (v_fd 45 (by kernel_rfl) rfl) (s_val (v_load1 (v := .bool _) (by kernel_rfl) rfl (.app (.there (.there (.there (.there .here))))) (bankD_fails _ _ _ _ _ _)) (s_nil (c_condR rfl rfl (fun h44 => ?_) (fun h44 => ?_))))))))))
 · refine c_skip (n_then (r_seq (by kernel_rfl) (s_val (v_move (v := .pointer _) rfl) (s_val (v_nilCheck rfl) (s_val (v_fd 42 (by kernel_rfl) rfl) (s_val (v_load1 (v := .string _) (by kernel_rfl) rfl (.app (.there (.there (.there (.there .here))))) (bankD_text _ _ _ _ _ _)) (s_val (v_move (v := S _) rfl) (s_val (v_strAdd rfl rfl (by omega)) (s_val (v_nilCheck rfl) (s_val (v_fd 42 (by kernel_rfl) rfl) (s_store1 (v := .string _) (by kernel_rfl) rfl rfl (.app (.there (.there (.there (.there .here))))) (bankD_setText _ _ _ _ _ _) rfl (s_nil (r_seq (by kernel_rfl) (s_val (v_move (v := .pointer _) rfl) (s_val (v_loadA (m := 42) (by kernel_rfl) rfl (.app (.there .here)) (H.size _)) (s_val (v_nilCheck rfl) (s_val (v_fd 0 (by kernel_rfl) rfl) (s_storeP (m := 42) (by kernel_rfl) rfl rfl (.app (.there (.there (.there (.there .here))))) (by rw [bankD_size]; omega) (H.size _) (bankD_over _ _ _ _ _ _ _) (H.all1 _) (s_nil ?_)))))))))))))))))))
   refine r_seq (by kernel_rfl) (s_val (v_loadA (m := 3) (by kernel_rfl) rfl (.app .here) rfl) (s_storeA (m := 3) (by kernel_rfl) rfl rfl (.app (.there (.there .here))) rfl rfl rep_all (s_nil (c_ret ?_))))
   have q6 : decide ((nextM h.core ps a).code = 0) = true := h20
   have q7 : noted a = true := frame_codeD.1 (of_decide_eq_true h28)
   have q8 : decide (4000 < tx.length + (frameOf a).length) = false := decide_eq_false (by have := of_decide_eq_false h39; rw [fText_yesD q7] at this; omega)
   have q9 : decide (0 ≤ fl) = false := h44
   refine n_doneWD (m := 3) rfl (by decide) rfl (by kernel_rfl) (.app (.there (.there .here))) rep_size (fun w1 hw => ?_)
   refine ⟨r1.E ++ [(b, .cells (bankD hx (tx ++ frameOf a) (!dn) (na : Nat) (decide (0 ≤ fl)) (keptOf fl)) 55 (0, 0))], r1.F, hmr, by have h2 := hw.sub (List.Sublist.append (List.Sublist.refl _) (List.Sublist.cons _ (List.Sublist.cons _ (List.Sublist.cons _ (List.Sublist.cons _ (List.Sublist.cons_cons _ (List.Sublist.refl _))))))); rw [fText_yesD q7] at h2; exact has_last h2, ?_⟩
   exact doR_rep (q := (nextM h.core ps a)) (by simp only [execM, q6, q7, q8, q9, cond_true, cond_false, Bool.not_true, Bool.not_false, Bool.or_true, Bool.true_or, Bool.or_false, Bool.false_or]) hcx hpx hlx hdx
 refine t_seq (k := 16) (by kernel_rfl) (by kernel_rfl) (fun w hw => hw.drew) (by kernel_rfl) (q_val (v_move (v := .pointer _) rfl) (q_val (v_nilCheck rfl) (q_val (v_fd 42 (by kernel_rfl) rfl) (q_val (v_load1 (v := .string _) (by kernel_rfl) rfl (.app (.there (.there (.there (.there .here))))) (bankD_text _ _ _ _ _ _)) (q_val (v_move (v := S _) rfl) (q_val (v_move (v := .pointer _) rfl) (q_val (v_nilCheck rfl) (q_val (v_fd 46 (by kernel_rfl) rfl) (q_val (v_ldI (by kernel_rfl) rfl (.app (.there (.there (.there (.there .here))))) (bankD_kept _ _ _ _ _ _)) (q_val (v_move (v := S _) rfl) (q_val (v_strLen (by kernel_rfl) rfl rfl) (q_val (v_min rfl rfl) (q_val (v_strHi (by kernel_rfl) rfl rfl (by have := of_decide_eq_true h44; unfold minI keptOf; split <;> split <;> omega)) (q_val (v_strAdd rfl rfl (by simp only [List.length_take]; omega)) (q_val (v_nilCheck rfl) (q_val (v_fd 42 (by kernel_rfl) rfl) (q_tail (s_store1 (v := .string _) (by kernel_rfl) rfl rfl (.app (.there (.there (.there (.there .here))))) (bankD_setText _ _ _ _ _ _) rfl (s_nil ?_)))))))))))))))))))
 refine r_seq (by kernel_rfl) (s_val (v_move (v := .pointer _) rfl) (s_val (v_move (v := .pointer _) rfl) (s_val (v_move (v := .pointer _) rfl) (s_val (v_nilCheck rfl) (s_val (v_fd 43 (by kernel_rfl) rfl) (s_store1 (v := .bool _) (by kernel_rfl) rfl rfl (.app (.there (.there (.there (.there .here))))) (bankD_setUp _ _ _ _ _ _) rfl (s_val (v_nilCheck rfl) (s_val (v_fd 45 (by kernel_rfl) rfl) (s_store1 (v := .bool _) (by kernel_rfl) rfl rfl (.app (.there (.there (.there (.there .here))))) (bankD_setFails _ _ _ _ _ _) rfl (s_val (v_nilCheck rfl) (s_val (v_fd 46 (by kernel_rfl) rfl) (s_store1 (v := .int .i64 _) (by kernel_rfl) rfl rfl (.app (.there (.there (.there (.there .here))))) (bankD_setKept _ _ _ _ _ _) rfl (s_nil (r_seq (by kernel_rfl) (s_call (by kernel_rfl) (fun w hw => g_failed _ w) (s_storeA (m := 3) (by kernel_rfl) rfl rfl (.app (.there (.there .here))) rfl rfl rep_all (s_nil (c_ret (n_ret ?_)))))))))))))))))))
 have q6 : decide ((nextM h.core ps a).code = 0) = true := h20
 have q7 : noted a = true := frame_codeD.1 (of_decide_eq_true h28)
 have q8 : decide (4000 < tx.length + (frameOf a).length) = false := decide_eq_false (by have := of_decide_eq_false h39; rw [fText_yesD q7] at this; omega)
 have q9 : decide (0 ≤ fl) = true := h44
 refine n_doneWD (m := 3) rfl (by decide) rfl (by kernel_rfl) (.app (.there (.there .here))) rep_size (fun w1 hw => ?_)
 have hfl := of_decide_eq_true h44
 refine ⟨[(b, .cells (bankD h (tx ++ (frameOf a).take fl.toNat) (!true) (na : Nat) (decide ((0 : Int) ≤ -1)) (keptOf (-1))) 55 (0, 0))], r1.F, hmr, by have h2 := hw.sub (List.Sublist.trans (List.Sublist.cons _ (List.Sublist.cons _ (List.Sublist.cons _ (List.Sublist.cons _ (List.Sublist.cons_cons _ (List.Sublist.refl _)))))) (List.sublist_append_right _ _)); rw [take_minD q7 hfl] at h2; exact has_one h2, ?_⟩
 exact doR_err (by simp only [execM, q6, q7, q8, q9, cond_true, cond_false, Bool.not_true, Bool.not_false, Bool.or_true, Bool.true_or, Bool.or_false, Bool.false_or]) (hp.mono hmr) hlc
end Go.Proofs.YtmkboljfbmlebacGreat
namespace Go.Proofs.YtmkboljfbmlebacGreat
open Go.RowKit
set_option linter.unusedSimpArgs false
set_option linter.unusedVariables false
set_option maxRecDepth 100000
attribute [local irreducible] cC sC nC rC qw
set_option maxHeartbeats 2000000 in
theorem g_Do (F : Addr → Value → Prop) (h : H) (b : Nat) (ps : List PayS) (tx : List Nat) (dn : Bool) (fl : Int) (na : Nat) (a : ActS) (hp : PaysIn F h.pa h.pl ps) (hlc : h.pl ≤ h.pc) (hps24 : ps.length ≤ 24) (htx : tx.length ≤ 4000) (hna : na ≤ 200) (hbt : Byt tx) : GivesW Tryz.prog 8 [.pointer (some ⟨b, 0, none⟩), .agg a.cells] F ([(b, .cells (bankD h (tx) (!dn) (na : Nat) (decide (0 ≤ fl)) (keptOf fl)) 55 (0, 0))]) (DoR 55 b (doM (⟨h.core, ps, tx, dn, fl, na⟩ : BankS) a)) := by
 refine givesW_of Tryz.func8 rfl Tryz.ntmps8 (by simp) (fun w K => ?_)
 refine r_seq (by kernel_rfl) (s_box (v := .agg _) rfl (fun b3 => ?_))
 refine s_alloc (z := .agg (repC 0 0 (.slice none 0 0))) (by kernel_rfl) (fun b4 => ?_)
 refine s_nil (c_seq (r_seq (by kernel_rfl) (s_val (v_move (v := .pointer _) rfl) (s_val (v_ptrNil (by kernel_rfl) rfl rfl) (s_nil (c_condFh rfl rfl rfl (c_skip (n_then (c_seq (r_seq (by kernel_rfl) (s_val (v_move (v := .pointer _) rfl) (s_val (v_nilCheck rfl) (s_val (v_fd 44 (by kernel_rfl) rfl) (s_val (v_ldI (by kernel_rfl) rfl (.there (.there .here)) (bankD_acts _ _ _ _ _ _)) (s_val (v_geq (k := .i64) rfl rfl) (s_nil (c_cond rfl rfl (fun h12 => ?_) (fun h12 => ?_))))))))))))))))))
 · refine r_seq (by kernel_rfl) (s_call (by kernel_rfl) (fun w hw => g_failed _ w) (s_storeA (m := 3) (by kernel_rfl) rfl rfl .here rfl rfl rep_all (s_nil (c_ret (n_ret ?_)))))
   have q1 : decide (na = 200) = true := decide_eq_true (by have := of_decide_eq_true h12; omega)
   refine n_doneWD (m := 3) rfl (by decide) rfl (by kernel_rfl) .here rep_size (fun w1 hw => ?_)
   exact ⟨[(b, .cells (bankD h (tx) (!dn) (na : Nat) (decide (0 ≤ fl)) (keptOf fl)) 55 (0, 0))], F, (fun _ _ h => h), has_one (hw.sub (List.Sublist.cons _ (List.Sublist.cons _ (List.Sublist.cons_cons _ (List.Sublist.refl _))))), doR_err (by rw [doM_eq]; simp only [q1, cond_true, cond_false, Bool.not_true, Bool.not_false, Bool.or_true, Bool.true_or, Bool.or_false, Bool.false_or]) hp hlc⟩
 refine c_skip (n_then (r_seq (by kernel_rfl) (s_val (v_move (v := .pointer _) rfl) (s_val (v_nilCheck rfl) (s_val (v_fd 44 (by kernel_rfl) rfl) (s_val (v_ldI (by kernel_rfl) rfl (.there (.there .here)) (bankD_acts _ _ _ _ _ _)) (s_val (v_add rfl rfl (by omega)) (s_val (v_nilCheck rfl) (s_val (v_fd 44 (by kernel_rfl) rfl) (s_store1 (v := .int .i64 _) (by kernel_rfl) rfl rfl (.there (.there .here)) (bankD_setActs _ _ _ _ _ _) rfl (s_nil (c_block (r_seq (by kernel_rfl) (s_val (v_fd 0 (by kernel_rfl) rfl) (s_val (v_ldI (by kernel_rfl) rfl (.there .here) rfl) (s_val (v_eql (k := .i64) rfl rfl) (s_val (v_asB rfl) (s_nil (c_cond rfl rfl (fun h24 => ?_) (fun h24 => ?_))))))))))))))))))))
 · refine r_seq (by kernel_rfl) (s_val (v_move (v := .pointer _) rfl) (s_weak (fun w1 hw => hw.perm (List.Perm.cons _ (List.Perm.swap _ _ _))) (s_weak (fun w1 hw => hw.perm (List.Perm.swap _ _ _)) (s_callW (B := [(b, .cells (bankD h (tx) (!dn) (na + 1 : Nat) (decide (0 ≤ fl)) (keptOf fl)) 55 (0, 0))]) (by kernel_rfl) (g_open F h b ps tx dn fl (na + 1) hbt hp hlc hps24 htx) (fun F1 v1 B1 hF1 hR1 => ?_)))))
   obtain ⟨vd, E1, B2, rfl, rfl, hi1, hr1⟩ := hR1
   obtain ⟨a1, c1, rfl, hi2⟩ := id hi1
   refine s_weak (fun w1 hw => has_assoc hw) (s_storeA (m := 3) (by kernel_rfl) rfl rfl (.app (.app .here)) rfl rfl rep_all (s_nil (c_ret (n_bret ?_))))
   have q1 : decide (na = 200) = false := decide_eq_false (by have := of_decide_eq_false h12; omega)
   have q2 : decide (a.kind = 11) = true := decide_eq_true (by have := of_decide_eq_true h24; omega)
   have he : doM (⟨h.core, ps, tx, dn, fl, na⟩ : BankS) a = openM { c := h.core, ps := ps, text := tx, down := dn, fail := fl, acts := na + 1 } := by rw [doM_eq]; simp only [q1, q2, cond_true, cond_false, Bool.not_true, Bool.not_false, Bool.or_true, Bool.true_or, Bool.or_false, Bool.false_or]
   refine n_doneWD (m := 3) rfl (by decide) rfl (by kernel_rfl) (.app (.app .here)) rep_size (fun w1 hw => ?_)
   refine ⟨E1 ++ B2, F1, hF1, has_assoc' (hw.sub (List.Sublist.append (List.Sublist.refl _) (List.Sublist.append (List.Sublist.refl _) (List.Sublist.cons _ (List.Sublist.cons _ (List.Sublist.refl _)))))), ?_⟩
   rw [he]
   exact ⟨_, E1, B2, rfl, rfl, hi1, hr1⟩
 refine r_seq (by kernel_rfl) (s_val (v_move (v := .pointer _) rfl) (s_val (v_nilCheck rfl) (s_val (v_fd 43 (by kernel_rfl) rfl) (s_val (v_load1 (v := .bool _) (by kernel_rfl) rfl (.there (.there .here)) (bankD_up _ _ _ _ _ _)) (s_val (v_not rfl) (s_val (v_asB rfl) (s_nil (c_condN rfl rfl (fun h30 => ?_) (fun h30 => ?_)))))))))
 · refine r_seq (by kernel_rfl) (s_call (by kernel_rfl) (fun w hw => g_failed _ w) (s_storeA (m := 3) (by kernel_rfl) rfl rfl .here rfl rfl rep_all (s_nil (c_ret (n_bret ?_)))))
   have q1 : decide (na = 200) = false := decide_eq_false (by have := of_decide_eq_false h12; omega)
   have q2 : decide (a.kind = 11) = false := decide_eq_false (by have := of_decide_eq_false h24; omega)
   have q3 : dn = true := by cases dn with | true => rfl | false => cases h30
   refine n_doneWD (m := 3) rfl (by decide) rfl (by kernel_rfl) .here rep_size (fun w1 hw => ?_)
   exact ⟨[(b, .cells (bankD h (tx) (!dn) (na + 1 : Nat) (decide (0 ≤ fl)) (keptOf fl)) 55 (0, 0))], F, (fun _ _ h => h), has_one (hw.sub (List.Sublist.cons _ (List.Sublist.cons _ (List.Sublist.cons_cons _ (List.Sublist.refl _))))), doR_err (by rw [doM_eq]; simp only [q1, q2, q3, cond_true, cond_false, Bool.not_true, Bool.not_false, Bool.or_true, Bool.true_or, Bool.or_false, Bool.false_or]) hp hlc⟩
 refine r_seq (by kernel_rfl) (s_val (v_fd 0 (by kernel_rfl) rfl) (s_val (v_ldI (by kernel_rfl) rfl (.there .here) rfl) (s_val (v_eql (k := .i64) rfl rfl) (s_val (v_asB rfl) (s_nil (c_condR rfl rfl (fun h37 => ?_) (fun h37 => ?_)))))))
 · refine r_seq (by kernel_rfl) (s_val (v_move (v := .pointer _) rfl) (s_val (v_loadA (m := 5) (by kernel_rfl) rfl (.there .here) rfl) (s_weak (fun w1 hw => hw.perm (List.Perm.cons _ (List.Perm.swap _ _ _))) (s_weak (fun w1 hw => hw.perm (List.Perm.swap _ _ _)) (s_callW (B := [(b, .cells (bankD h (tx) (!dn) (na + 1 : Nat) (decide (0 ≤ fl)) (keptOf fl)) 55 (0, 0))]) (by kernel_rfl) (g_execute F h b ps tx dn fl (na + 1) a hp hlc hps24 htx) (fun F1 v1 B1 hF1 hR1 => ?_))))))
   obtain ⟨vd, E1, B2, rfl, rfl, hi1, hr1⟩ := hR1
   obtain ⟨a1, c1, rfl, hi2⟩ := id hi1
   refine s_weak (fun w1 hw => has_assoc hw) (s_storeA (m := 3) (by kernel_rfl) rfl rfl (.app (.app .here)) rfl rfl rep_all (s_nil (c_ret (n_bret ?_))))
   have q1 : decide (na = 200) = false := decide_eq_false (by have := of_decide_eq_false h12; omega)
   have q2 : decide (a.kind = 11) = false := decide_eq_false (by have := of_decide_eq_false h24; omega)
   have q3 : dn = false := by cases dn with | false => rfl | true => cases h30
   have q4 : decide (a.kind = 10) = false := decide_eq_false (by have := of_decide_eq_false h37; omega)
   have he : doM (⟨h.core, ps, tx, dn, fl, na⟩ : BankS) a = execM { c := h.core, ps := ps, text := tx, down := dn, fail := fl, acts := na + 1 } a := by rw [doM_eq]; simp only [q1, q2, q3, q4, cond_true, cond_false, Bool.not_true, Bool.not_false, Bool.or_true, Bool.true_or, Bool.or_false, Bool.false_or]
   refine n_doneWD (m := 3) rfl (by decide) rfl (by kernel_rfl) (.app (.app .here)) rep_size (fun w1 hw => ?_)
   refine ⟨E1 ++ B2, F1, hF1, has_assoc' (hw.sub (List.Sublist.append (List.Sublist.refl _) (List.Sublist.append (List.Sublist.refl _) (List.Sublist.cons _ (List.Sublist.cons _ (List.Sublist.refl _)))))), ?_⟩
   rw [he]
   exact ⟨_, E1, B2, rfl, rfl, hi1, hr1⟩
 refine r_seq (by kernel_rfl) (s_val (v_move (v := .pointer _) rfl) (s_val (v_fd 4 (by kernel_rfl) rfl) (s_val (v_ldI (by kernel_rfl) rfl (.there .here) rfl) (s_weak (fun w1 hw => hw.perm (List.Perm.cons _ (List.Perm.swap _ _ _))) (s_weak (fun w1 hw => hw.perm (List.Perm.swap _ _ _)) (s_callW (B := [(b, .cells (bankD h (tx) (!dn) (na + 1 : Nat) (decide (0 ≤ fl)) (keptOf fl)) 55 (0, 0))]) (by kernel_rfl) (g_schedule F h b ps tx dn fl (na + 1) a.n hp hlc hps24 htx) (fun F1 v1 B1 hF1 hR1 => ?_)))))))
 obtain ⟨vd, E1, B2, rfl, rfl, hi1, hr1⟩ := hR1
 obtain ⟨a1, c1, rfl, hi2⟩ := id hi1
 refine s_weak (fun w1 hw => has_assoc hw) (s_storeA (m := 3) (by kernel_rfl) rfl rfl (.app (.app .here)) rfl rfl rep_all (s_nil (c_ret (n_bret ?_))))
 have q1 : decide (na = 200) = false := decide_eq_false (by have := of_decide_eq_false h12; omega)
 have q2 : decide (a.kind = 11) = false := decide_eq_false (by have := of_decide_eq_false h24; omega)
 have q3 : dn = false := by cases dn with | false => rfl | true => cases h30
 have q4 : decide (a.kind = 10) = true := decide_eq_true (by have := of_decide_eq_true h37; omega)
 have he : doM (⟨h.core, ps, tx, dn, fl, na⟩ : BankS) a = schedM { c := h.core, ps := ps, text := tx, down := dn, fail := fl, acts := na + 1 } a.n := by rw [doM_eq]; simp only [q1, q2, q3, q4, cond_true, cond_false, Bool.not_true, Bool.not_false, Bool.or_true, Bool.true_or, Bool.or_false, Bool.false_or]
 refine n_doneWD (m := 3) rfl (by decide) rfl (by kernel_rfl) (.app (.app .here)) rep_size (fun w1 hw => ?_)
 refine ⟨E1 ++ B2, F1, hF1, has_assoc' (hw.sub (List.Sublist.append (List.Sublist.refl _) (List.Sublist.append (List.Sublist.refl _) (List.Sublist.cons _ (List.Sublist.cons _ (List.Sublist.refl _)))))), ?_⟩
 rw [he]
 exact ⟨_, E1, B2, rfl, rfl, hi1, hr1⟩
end Go.Proofs.YtmkboljfbmlebacGreat
namespace Go.Proofs.YtmkboljfbmlebacGreat
open Go.RowKit
set_option linter.unusedSimpArgs false
set_option linter.unusedVariables false
set_option maxRecDepth 100000
attribute [local irreducible] cC sC nC rC qw
theorem g_NewBank  (w : World) : GivesE Tryz.prog 5 [] w (fun v E => ∃ b, v = .pointer (some ⟨b, 0, none⟩) ∧ E = [(b, .cells (bankD newM [] true 0 false 0) 55 (0, 0))]) := by
 refine givesE_of Tryz.func5 rfl Tryz.ntmps5 (by simp) (r_seq (by kernel_rfl) (s_val (v_assign (v := .pointer _) rfl) (s_nil (r_seq (by kernel_rfl) (s_call (by kernel_rfl) (fun w hw => g_New w) (s_val (v_build (vs := [(0, .agg _), (2, .bool _)]) (cs := bankD newM [] true 0 false 0) rfl (by kernel_rfl)) (s_box (v := .agg _) rfl (fun b3 => ?_))))))))
 refine s_val (v_assign (v := .pointer _) rfl) (s_nil (c_ret (n_doneE (E := [_]) (L := []) rfl (by decide) ⟨b3, rfl, rfl⟩)))
theorem g_House (h : H) (b : Nat) (ps : List PayS) (tx : List Nat) (up : Bool) (na : Int) (fs : Bool) (kp : Int) (w : World) (hc : ∀ (j : Nat) (v : Value), (bankD h tx up na fs kp)[j]? = some v → At w ⟨b, 0 + j, none⟩ v) (hp : PaysIn (At w) h.pa h.pl ps) (h24 : h.pl ≤ 24) : GivesE Tryz.prog 11 [.pointer (some ⟨b, 0, none⟩)] w (fun v E => ∃ pa pc, v = .agg ({ h with pa := pa, pc := pc } : H).cells ∧ ListE 67 6 (.slice pa h.pl pc) h.pl (flatC ps) E) := by
 refine givesE_of Tryz.func11 rfl Tryz.ntmps11 (by simp) (r_seq (by kernel_rfl) (s_alloc (z := .agg zeroH.cells) (by kernel_rfl) (fun b2 => ?_)))
 refine s_nil (c_seq (r_seq (by kernel_rfl) (s_val (v_move (v := .pointer _) rfl) (s_val (v_ptrNil (by kernel_rfl) rfl rfl) (s_nil (c_condFh rfl rfl rfl (c_skip (n_then (r_seq (by kernel_rfl) (s_val (v_move (v := .pointer _) rfl) (s_val (v_nilCheck rfl) (s_val (v_fd 0 (by kernel_rfl) rfl) (s_val (v_loadNo (cs := h.cells) (m := 42) (by kernel_rfl) rfl (H.size _) (fun j v hv => by have e := hc j v (by unfold bankD; rw [Array.getElem?_append_left (Array.getElem?_eq_some_iff.1 hv).1]; exact hv); exact e)) ?_)))))))))))))
 refine s_callE (by kernel_rfl) (fun w hw => g_ownL h ps w (hp.at hw) h24) (fun v10 E10 hR10 => ?_)
 obtain ⟨pa10, pc10, rfl, hE10⟩ := hR10
 refine s_storeA (m := 42) (by kernel_rfl) rfl rfl (.app .here) (H.size _) (H.size _) (H.all1 _) (s_nil (c_ret (n_doneCE (E := E10) (m := 42) rfl (by decide) rfl (by kernel_rfl) (.app .here) (H.size _) (fun w hw => hw) ⟨_, _, rfl, hE10⟩)))
theorem g_Book (h : H) (b : Nat) (ps : List PayS) (tx : List Nat) (up : Bool) (na : Int) (fs : Bool) (kp : Int) (w : World) (hc : ∀ (j : Nat) (v : Value), (bankD h tx up na fs kp)[j]? = some v → At w ⟨b, 0 + j, none⟩ v) : Gives Tryz.prog 12 [.pointer (some ⟨b, 0, none⟩)] w (.tuple #[S tx, .bool up]) := by
 refine gives_of Tryz.func12 rfl Tryz.ntmps12 (by simp) (r_seq (by kernel_rfl) (s_val (v_assign (v := S []) rfl) (s_val (v_asB rfl) (s_nil (c_seq (r_seq (by kernel_rfl) (s_val (v_move (v := .pointer _) rfl) (s_val (v_ptrNil (by kernel_rfl) rfl rfl) (s_nil (c_condFh rfl rfl rfl (c_skip (n_then (d_seq (by kernel_rfl) (by kernel_rfl) (fun w hw => hw.drew) (by kernel_rfl) (q_val (v_move (v := .pointer _) rfl) (q_val (v_nilCheck rfl) (q_val (v_fd 42 (by kernel_rfl) rfl) (q_val (v_load1o (v := S tx) (by kernel_rfl) rfl (hc 42 _ (bankD_text h tx up na fs kp))) (q_val (v_move (v := .pointer _) rfl) (q_val (v_nilCheck rfl) ?_)))))))))))))))))))
 refine q_val (v_fd 43 (by kernel_rfl) rfl) (q_val (v_load1o (v := .bool up) (by kernel_rfl) rfl (hc 43 _ (bankD_up h tx up na fs kp))) (q_val (v_assign (v := S _) rfl) (q_val (v_asB rfl) (q_nil (c_ret ?_)))))
 exact n_doneI2 rfl (by decide) (by decide) rfl
end Go.Proofs.YtmkboljfbmlebacGreat
namespace Go.Proofs.YtmkboljfbmlebacGreat
open Go.RowKit
set_option linter.unusedSimpArgs false
set_option linter.unusedVariables false
set_option maxRecDepth 100000
attribute [local irreducible] cC sC nC rC qw
theorem g_DoR (F : Addr → Value → Prop) (b : Nat) (B : List (Nat × Obj)) (s : BankS) (a : ActS) (hg : BGood s) (hr : DevRep 55 F b B s) : GivesW Tryz.prog 8 [.pointer (some ⟨b, 0, none⟩), .agg a.cells] F B (DoR 55 b (doM s a)) := by
 obtain ⟨h, rfl, hc, hp, hlc⟩ := hr
 have hps24 : s.ps.length ≤ 24 := (bgood_inv hg).1.len
 have htx : s.text.length ≤ 4000 := by obtain ⟨_, _, hh⟩ := id hg; exact hh.inv.len
 have hna : s.acts ≤ 200 := by obtain ⟨_, _, hh⟩ := id hg; exact hh.acts
 have hd := g_Do F h b s.ps s.text s.down s.fail s.acts a hp hlc hps24 htx hna (bgood_byt hg)
 rw [hc] at hd
 exact hd
theorem rep_cells {w : World} {b : Nat} {cs : Array Value} {t : Nat} (hl : Lies w [(b, .cells cs t (0, 0))]) (j : Nat) (v : Value) (hv : cs[j]? = some v) : At w ⟨b, 0 + j, none⟩ v := by
 show w.cell? _ = _
 rw [Nat.zero_add, cell_of_row w b j cs t (0, 0) (hl _ (.head _))]
 exact hv
noncomputable def theBank : BankOk where
 Rep := DevRep 55
 mono := fun h hm => h.mono hm
 new := fun w => ⟨(g_NewBank w).out.mono fun e w' ⟨v, E, h1, h2, h3, b, h4, h5⟩ => ⟨v, E, h1, h2, h3, b, h4, fun F => ⟨newM, h5, rfl, ⟨rfl, .inl rfl⟩, Nat.le_refl _⟩⟩⟩
 act := fun F b B s a hg hr => g_DoR F b B s a hg hr
 house := fun w b B s hg hr hl => by
   obtain ⟨h, rfl, hc, hp, hlc⟩ := hr
   have hps24 : s.ps.length ≤ 24 := (bgood_inv hg).1.len
   have hh := g_House h b s.ps s.text _ _ _ _ w (rep_cells hl) hp (by have := hp.1; omega)
   exact ⟨hh.out.mono fun e w' ⟨v, E, h1, h2, h3, pa, pc, h4, h5⟩ => ⟨v, E, h1, h2, h3, { h with pa := pa, pc := pc }, h4, hc, (ListE.pays h5 hp.1).o⟩⟩
 book := fun w b B s hg hr hl => by
   obtain ⟨h, rfl, hc, hp, hlc⟩ := hr
   exact g_Book h b s.ps s.text _ _ _ _ w (rep_cells hl)
theorem theReplay (w : World) (a : Option Addr) (c : Nat) (l : List ActS) (hx : ActsAt (At w) a l) (hl : l.length ≤ 9223372036854775807) : GivesF Tryz.prog 14 [.slice a l.length c] w (ReplayF l) := g_Replay a c l w hx hl
end Go.Proofs.YtmkboljfbmlebacGreat
namespace Go.Proofs.YtmkboljfbmlebacGreat
open Go.RowKit
set_option linter.unusedSimpArgs false
set_option linter.unusedVariables false
theorem s_forgetY {P : Program} {ops : Array Oper} {K : (Nat → Value) → World → Prop} {rest : List Oper} {f : Nat → Value} {w0 : World} {F : Addr → Value → Prop} {E L : List (Nat × Obj)} (kk : ∀ F', More F F' → Knows (Young w0 F') E → sC P ops K rest f (Has w0 F' L)) : sC P ops K rest f (Has w0 F (E ++ L)) :=
 fun w hw => kk (Out L w) hw.forget.2.1 (knowsY hw) w hw.forget.1
theorem reps_atD : ∀ (xs : List ActS) (s : BankS) (i : Nat) (x : ActS), xs[i]? = some x → (repsM s xs)[i]? = some (doM (playM s (xs.take i)) x).2
 | [], _, _, _, h => by simp at h
 | y :: r, s, 0, x, h => by simp at h; subst h; simp [repsM, playM]
 | y :: r, s, i + 1, x, h => by
   simp only [List.getElem?_cons_succ] at h
   simp only [repsM, List.getElem?_cons_succ, List.take_succ_cons]
   rw [reps_atD r (doM s y).1 i x h]
   rfl
theorem play_snocD : ∀ (l : List ActS) (s : BankS) (a : ActS), playM s (l ++ [a]) = (doM (playM s l) a).1
 | [], s, a => rfl
 | y :: r, s, a => play_snocD r (doM s y).1 a
theorem play_takeD {xs : List ActS} {k : Nat} {x : ActS} (h : xs[k]? = some x) (s : BankS) : playM s (xs.take (k + 1)) = (doM (playM s (xs.take k)) x).1 := by
 rw [List.take_add_one, h]
 exact play_snocD _ _ _
structure RnG where
 k : Nat
 F : Addr → Value → Prop
 s : BankS
 B : List (Nat × Obj)
 v : Value
 E : List (Nat × Obj)
 cs : List Value
def RepL (F : Addr → Value → Prop) (cs : List Value) (rs : List RepS) (n : Nat) : Prop :=
 ∀ (j : Nat) (r : RepS), j < n → rs[j]? = some r → ∃ a1 c1, IntsAt F a1 r.done ∧ ∀ (k : Nat) (v : Value), (repC r.code r.n (.slice a1 r.done.length c1))[k]? = some v → cs[j * 3 + k]? = some v
structure RnOk (tr tb b : Nat) (w : World) (xs : List ActS) (t : RnG) : Prop where
 k : t.k ≤ xs.length
 more : More (At w) t.F
 s : t.s = playM newB (xs.take t.k)
 good : BGood t.s
 rep : DevRep tb t.F b t.B t.s
 list : ListE tr 3 t.v t.k t.cs t.E
 cells : RepL (Young w t.F) t.cs (repsM newB xs) t.k
theorem rnOk_start {tr tb b : Nat} {w : World} {xs : List ActS} : RnOk tr tb b w xs ⟨0, At w, newB, [(b, .cells (bankD newM [] true 0 false 0) tb (0, 0))], .slice none 0 0, [], []⟩ where
 k := Nat.zero_le _
 more := fun _ _ h => h
 s := rfl
 good := bgood_new
 rep := ⟨newM, rfl, rfl, ⟨rfl, .inl rfl⟩, Nat.le_refl _⟩
 list := listE_nil tr 3
 cells := fun j r h => absurd h (Nat.not_lt_zero _)
theorem RnOk.step {tr tb b : Nat} {w : World} {xs : List ActS} {t : RnG} (o : RnOk tr tb b w xs t) {x : ActS} (hx : xs[t.k]? = some x) {F' : Addr → Value → Prop} (hF : More t.F F') {a1 : Option Addr} {c1 : Nat} (hi : IntsAt (Young w F') a1 (doM t.s x).2.done) {B' : List (Nat × Obj)} (hr : DevRep tb F' b B' (doM t.s x).1) {v' : Value} {E' : List (Nat × Obj)}
   (hl : ListE tr 3 v' (t.k + 1) (t.cs ++ (repC (doM t.s x).2.code (doM t.s x).2.n (.slice a1 (doM t.s x).2.done.length c1)).toList) E') : RnOk tr tb b w xs ⟨t.k + 1, F', (doM t.s x).1, B', v', E', t.cs ++ (repC (doM t.s x).2.code (doM t.s x).2.n (.slice a1 (doM t.s x).2.done.length c1)).toList⟩ where
 k := (List.getElem?_eq_some_iff.1 hx).1
 more := fun a v h => hF a v (o.more a v h)
 s := by show (doM t.s x).1 = _; rw [play_takeD hx, o.s]
 good := o.good.act x
 rep := hr
 list := hl
 cells := fun j r hj hjr => by
   have hlen := o.list.1
   by_cases e : j = t.k
   · subst e
     have h1 := reps_atD xs newB t.k x hx
     rw [← o.s, hjr] at h1
     simp only [Option.some.injEq] at h1
     subst h1
     refine ⟨a1, c1, hi, fun k v hv => ?_⟩
     show (t.cs ++ _)[t.k * 3 + k]? = _
     rw [List.getElem?_append_right (by omega), hlen, Nat.add_sub_cancel_left]
     simpa using hv
   · have hj' : j < t.k := by have : j < t.k + 1 := hj; omega
     obtain ⟨a2, c2, h2, h3⟩ := o.cells j r hj' hjr
     refine ⟨a2, c2, h2.mono (young_mono hF), fun k v hv => ?_⟩
     have h4 := h3 k v hv
     have h5 := (List.getElem?_eq_some_iff.1 h4).1
     show (t.cs ++ _)[j * 3 + k]? = _
     rw [List.getElem?_append_left h5]
     exact h4
def RunG (l : List ActS) (F : Addr → Value → Prop) (v : Value) : Prop := ∃ (a : Option Addr) (n c : Nat) (e : Int), v = .tuple #[.slice a n c, I e] ∧ (l.length ≤ 200 → n = l.length ∧ e = 0 ∧ RepsAt F a (repsM newB l)) ∧ (200 < l.length → n = 0 ∧ e = 5)
theorem runG_long {l : List ActS} {F : Addr → Value → Prop} (h : 200 < l.length) : RunG l F (.tuple #[.slice none 0 0, I 5]) := ⟨none, 0, 0, 5, rfl, fun h1 => by omega, fun _ => ⟨rfl, rfl⟩⟩
theorem RnOk.done {tr tb b : Nat} {w w' : World} {xs : List ActS} {t : RnG} {L : List (Nat × Obj)} (o : RnOk tr tb b w xs t) (hk : t.k = xs.length) (hl : xs.length ≤ 200) (hw : Has w t.F (t.E ++ L) w') : RunG xs (Fresh w w') (.tuple #[t.v, I 0]) := by
 have hlen := reps_len xs newB
 have hkn : Knows (Fresh w w') t.E := own_known hw (fun p hp => List.mem_append_left _ hp)
 rcases o.list.2 with ⟨h1, h2, h3⟩ | ⟨g, cap, cur, h1, h2, h3, h4, h5, h6⟩
 · refine ⟨none, 0, 0, 0, by rw [h1], fun _ => ⟨by omega, rfl, .inl ?_⟩, fun h => by omega⟩
   exact List.eq_nil_of_length_eq_zero (by omega)
 · refine ⟨some ⟨g, 0, none⟩, t.k, cap, 0, by rw [h1], fun _ => ⟨hk, rfl, .inr ⟨g, 0, rfl, fun j r hj => ?_⟩⟩, fun h => by omega⟩
   have hjl := (List.getElem?_eq_some_iff.1 hj).1
   obtain ⟨a1, c1, h7, h8⟩ := o.cells j r (by omega) hj
   refine ⟨a1, c1, h7.mono (young_fresh hw), fun k v hv => ?_⟩
   have h9 := h8 k v hv
   rw [← h6, List.getElem?_take] at h9
   split at h9
   · rw [Nat.zero_add]
     exact hkn g cur tr (0, 0) (by rw [h2]; exact .head _) (j * 3 + k) v (by simpa using h9)
   · cases h9
end Go.Proofs.YtmkboljfbmlebacGreat
namespace Go.Proofs.YtmkboljfbmlebacGreat
open Go.RowKit
set_option linter.unusedSimpArgs false
set_option linter.unusedVariables false
set_option maxRecDepth 100000
attribute [local irreducible] cC sC nC rC qw
set_option maxHeartbeats 1000000 in
theorem g_Run (a0 : Option Addr) (c0 : Nat) (xs : List ActS) (w : World) (hx : ActsAt (At w) a0 xs) (hlx : xs.length ≤ 9223372036854775807) : GivesF Tryz.prog 13 [.slice a0 xs.length c0] w (RunG xs) := by
 refine givesF_of Tryz.func13 rfl Tryz.ntmps13 (by simp) (r_seq (by kernel_rfl) (s_val (v_assign (v := .slice _ _ _) rfl) (s_val (v_asI rfl) (s_nil (c_seq (r_seq (by kernel_rfl) (s_val (v_move (v := .slice _ _ _) rfl) (s_val (v_lenS (T := 22) (m := 5) (by kernel_rfl) rfl rfl) (s_val (v_gtr (k := .i64) rfl rfl) (s_nil (c_cond rfl rfl (fun h10 => ?_) (fun h10 => ?_))))))))))))
 · refine r_seq (by kernel_rfl) (s_val (v_assign (v := .slice _ _ _) rfl) (s_val (v_asI rfl) (s_nil (c_ret (n_ret (n_doneTF rfl (by decide) (by decide) (fun w1 hw => ?_)))))))
   exact runG_long (by have := of_decide_eq_true h10; omega)
 have hl200 : xs.length ≤ 200 := by have := of_decide_eq_false h10; omega
 refine c_skip (n_then (r_seq (by kernel_rfl) (s_callE (by kernel_rfl) (fun w hw => g_NewBank w) (fun v11 E11 hR11 => ?_))))
 obtain ⟨b, rfl, rfl⟩ := hR11
 refine s_val (v_assign (v := .pointer _) rfl) (s_nil (r_seq (by kernel_rfl) (s_val (v_assign (v := .slice _ _ _) rfl) (s_nil (c_seq (r_seq (by kernel_rfl) (s_val (v_move (v := .slice _ _ _) rfl) (s_val (v_lenS (T := 22) (m := 5) (by kernel_rfl) rfl rfl) (s_val (v_mvI rfl) (s_nil (c_block (c_loop (σ := RnG) (fun (t : RnG) f => ∃ g, (RnOk 31 55 b w xs t) ∧ f = (upd (upd (upd (upd (upd g 4 (.pointer (some ⟨b, 0, none⟩))) 5 (t.v)) 12 (.slice a0 xs.length c0)) 13 (I xs.length)) 14 (I t.k))) (fun (t : RnG) => Has w t.F (t.E ++ (t.B ++ []))) (fun (t : RnG) => xs.length - t.k) ⟨0, At w, newB, [(b, .cells (bankD newM [] true 0 false 0) 55 (0, 0))], .slice none 0 0, [], []⟩ ⟨_, rnOk_start, live5 rfl rfl rfl rfl rfl⟩ (fun w hw => hw) ?_))))))))))))
 rintro t _ ⟨g, ho, rfl⟩
 refine r_seq (by kernel_rfl) (s_val (v_lsI rfl rfl) (s_nil (c_seq (c_condR rfl rfl (fun h15 => ?_) (fun h15 => ?_)))))
 · have hkl : t.k = xs.length := by have := of_decide_eq_false h15; have := ho.k; omega
   refine c_exit (n_exit (n_exit (n_bhere (n_then (r_seq (by kernel_rfl) (s_val (v_move (v := _) rfl) (s_val (v_assign (v := _) rfl) (s_val (v_asI rfl) (s_nil (c_ret (n_doneTF rfl (by decide) (by decide) (fun w1 hw => ?_))))))))))))
   exact ho.done hkl hl200 hw
 have hk0 := of_decide_eq_true h15
 obtain ⟨bx, ox, x, hax, hxk, hxc⟩ := hx.get (j := t.k) (by omega)
 refine c_skip (n_then (c_seq (c_block (r_seq (by kernel_rfl) (s_val (v_idxS (size := 5) (k := .i64) (by kernel_rfl) (congrArg (fun a => Value.slice a xs.length c0) hax) rfl ⟨by omega, by omega⟩) (s_val (v_loadNo (cs := x.cells) (m := 5) (by kernel_rfl) rfl rfl (fun k v hv => ho.more _ _ (hxc k v hv))) (s_alloc (z := zeroOf Tryz.prog 34) (by kernel_rfl) (fun b7 => ?_))))))))
 refine s_storeA (m := 5) (by kernel_rfl) rfl rfl .here (by kernel_rfl) rfl (ActS.all1 _) (s_nil (r_list (by kernel_rfl) (s_val (v_move (v := _) rfl) (s_val (v_move (v := .pointer _) rfl) (s_val (v_loadA (m := 5) (by kernel_rfl) rfl .here rfl) (s_weak (fun w1 hw => hw.perm (List.Perm.cons _ (perm_front (A := t.E) (E := t.B)))) (s_weak (fun w1 hw => hw.perm List.perm_middle.symm) (s_callW (by kernel_rfl) (g_DoR t.F b t.B t.s x ho.good ho.rep) (fun F21 v21 B21 hF21 hR21 => ?_)))))))))
 obtain ⟨vd, E21, B22, rfl, rfl, hi21, hr21⟩ := hR21
 obtain ⟨a21, c21, rfl, _⟩ := id hi21
 refine s_weak (fun w1 hw => has_assoc hw) (s_forgetY (fun F22 hF22 hk22 => ?_))
 refine s_weak (fun w1 hw => hw.perm (List.Perm.append_left B22 List.perm_middle.symm)) (s_weak (fun w1 hw => hw.perm (perm_front (A := B22) (E := t.E))) (s_build1 (v := .agg _) (e := 31) (m := 3) (by_ := 40) (by kernel_rfl) rfl rfl rfl (fill_one rfl) (fun b22 => ?_)))
 refine s_push (e := 31) (m := 3) (by_ := 40) (by kernel_rfl) rfl rfl rfl rfl rfl ho.list rfl rep_all (by have := ho.k; omega) (fun v23 E23 hE23 => ?_)
 refine s_val (v_assign (v := _) rfl) (s_end (n_bnormal (n_then (r_list (by kernel_rfl) (s_val (v_add rfl rfl (by have := ho.k; omega)) (s_val (v_mvI rfl) (s_end (n_round (s := t) ⟨t.k + 1, F22, (doM t.s x).1, B22, v23, E23, _⟩ ⟨_, ho.step hxk (fun a v h => hF22 a v (hF21 a v h)) (hi21.known hk22) (hr21.mono hF22) hE23, live5 rfl rfl rfl rfl rfl⟩ (fun _ hw => hw.sub (List.Sublist.append (List.Sublist.refl _) (List.Sublist.append (List.Sublist.refl _) (List.Sublist.cons _ (List.Sublist.refl _))))) (by have := ho.k; dsimp only; omega)))))))))
end Go.Proofs.YtmkboljfbmlebacGreat
namespace Go.Proofs.YtmkboljfbmlebacGreat
open Go.RowKit
set_option linter.unusedSimpArgs false
set_option linter.unusedVariables false
set_option maxRecDepth 100000
attribute [local irreducible] cC sC nC rC qw
theorem theRuns (w : World) (a : Option Addr) (c : Nat) (l : List ActS) (hx : ActsAt (At w) a l) (hl : l.length ≤ 9223372036854775807) : GivesF Tryz.prog 13 [.slice a l.length c] w (RunF2 l) := g_Run a c l w hx hl
end Go.Proofs.YtmkboljfbmlebacGreat
