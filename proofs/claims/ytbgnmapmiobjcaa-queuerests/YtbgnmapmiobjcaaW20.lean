/- Contracts of the comparison of payments. Condition: the payments lie in memory that is known. -/
import Derived.Test.YtbgnmapmiobjcaaW10
import Derived.Test.YtbgnmapmiobjcaaK20
namespace Go.Proofs.Ytbgnmapmiobjcaa
open Go.RowKit
set_option linter.unusedSimpArgs false
set_option linter.unusedVariables false
set_option maxRecDepth 100000
attribute [local irreducible] cC sC nC rC qw

theorem g_isNaN (x : Int) (w : World) : Gives Try.prog 64 [I x] w (.bool false) := by
  refine gives_of Try.func64 rfl Try.ntmps64 (by simp) ?_
  refine r_seq (by kernel_rfl) ?_
  refine s_val (v_assign (v := .bool _) rfl) ?_
  refine s_nil ?_
  refine r_seq (by kernel_rfl) ?_
  refine s_val (v_move (v := .int .i64 _) rfl) ?_
  refine s_val (v_move (v := .int .i64 _) rfl) ?_
  refine s_val (v_neq (k := .i64) rfl rfl) ?_
  refine s_val (v_assign (v := .bool _) rfl) ?_
  refine s_nil ?_
  refine c_ret ?_
  refine n_done rfl (by decide) (Eq.trans (b := .bool _) rfl (congrArg Value.bool ?_))
  simp

theorem g_Compare (x y : Int) (w : World) : Gives Try.prog 53 [I x, I y] w (I (cmpI x y)) := by
  refine gives_of Try.func53 rfl Try.ntmps53 (by simp) ?_
  refine r_seq (by kernel_rfl) ?_
  refine s_val (v_assign (v := .int .i64 _) rfl) ?_
  refine s_nil ?_
  refine r_seq (by kernel_rfl) ?_
  refine s_val (v_move (v := .int .i64 _) rfl) ?_
  refine s_call (by kernel_rfl) (fun w hw => g_isNaN _ w) ?_
  refine s_val (v_assign (v := .bool _) rfl) ?_
  refine s_nil ?_
  refine r_seq (by kernel_rfl) ?_
  refine s_val (v_move (v := .int .i64 _) rfl) ?_
  refine s_call (by kernel_rfl) (fun w hw => g_isNaN _ w) ?_
  refine s_val (v_assign (v := .bool _) rfl) ?_
  refine s_nil ?_
  refine c_seq ?_
  refine r_seq (by kernel_rfl) ?_
  refine s_val (v_move (v := .bool _) rfl) ?_
  refine s_nil ?_
  refine c_condFh rfl rfl rfl ?_
  refine c_skip ?_
  refine n_then ?_
  refine c_seq ?_
  refine r_seq (by kernel_rfl) ?_
  refine s_val (v_move (v := .bool _) rfl) ?_
  refine s_nil ?_
  refine c_condFh rfl rfl rfl ?_
  refine c_skip ?_
  refine n_then ?_
  refine c_seq ?_
  refine r_seq (by kernel_rfl) ?_
  refine s_val (v_move (v := .int .i64 _) rfl) ?_
  refine s_val (v_move (v := .int .i64 _) rfl) ?_
  refine s_val (v_lss (k := .i64) rfl rfl) ?_
  refine s_nil ?_
  refine c_cond rfl rfl (fun h16 => ?_) (fun h16 => ?_)
  · refine r_seq (by kernel_rfl) ?_
    refine s_val (v_assign (v := .int .i64 _) rfl) ?_
    refine s_nil ?_
    refine c_ret ?_
    refine n_ret ?_
    refine n_done rfl (by decide) (Eq.trans (b := .int .i64 _) rfl (congrArg (Value.int .i64) ?_))
    simp [cmpI, *]
  refine c_skip ?_
  refine n_then ?_
  refine c_seq ?_
  refine r_seq (by kernel_rfl) ?_
  refine s_val (v_move (v := .int .i64 _) rfl) ?_
  refine s_val (v_move (v := .int .i64 _) rfl) ?_
  refine s_val (v_gtr (k := .i64) rfl rfl) ?_
  refine s_nil ?_
  refine c_cond rfl rfl (fun h19 => ?_) (fun h19 => ?_)
  · refine r_seq (by kernel_rfl) ?_
    refine s_val (v_assign (v := .int .i64 _) rfl) ?_
    refine s_nil ?_
    refine c_ret ?_
    refine n_ret ?_
    refine n_done rfl (by decide) (Eq.trans (b := .int .i64 _) rfl (congrArg (Value.int .i64) ?_))
    simp [cmpI, *]
  refine c_skip ?_
  refine n_then ?_
  refine r_seq (by kernel_rfl) ?_
  refine s_val (v_assign (v := .int .i64 _) rfl) ?_
  refine s_nil ?_
  refine c_ret ?_
  refine n_done rfl (by decide) (Eq.trans (b := .int .i64 _) rfl (congrArg (Value.int .i64) ?_))
  simp [cmpI, *]

theorem g_Or (b o c : Nat) (x y : Int) (w : World) (hx : At w ⟨b, o, none⟩ (I x)) (hy : At w ⟨b, o + 1, none⟩ (I y)) : Gives Try.prog 52 [.slice (some ⟨b, o, none⟩) 2 c] w (I (bif decide (x = 0) then y else x)) := by
  refine gives_of Try.func52 rfl Try.ntmps52 (by simp) ?_
  refine r_seq (by kernel_rfl) ?_
  refine s_val (v_assign (v := .int .i64 _) rfl) ?_
  refine s_nil ?_
  refine r_seq (by kernel_rfl) ?_
  refine s_val (v_assign (v := .int .i64 _) rfl) ?_
  refine s_nil ?_
  refine c_seq ?_
  refine r_seq (by kernel_rfl) ?_
  refine s_val (v_move (v := .slice _ _ _) rfl) ?_
  refine s_val (v_lenS (T := 43) (m := 1) (by kernel_rfl) rfl rfl) ?_
  refine s_val (v_move (v := .int .i64 _) rfl) ?_
  refine s_nil ?_
  refine c_block ?_
  refine c_rounds 3 ?_
  refine r_succ ?_
  refine r_seq (by kernel_rfl) ?_
  refine s_val (v_lss (k := .i64) rfl rfl) ?_
  refine s_nil ?_
  refine c_seq ?_
  refine c_condTh rfl rfl rfl ?_
  refine c_skip ?_
  refine n_then ?_
  refine c_seq ?_
  refine c_block ?_
  refine r_seq (by kernel_rfl) ?_
  refine s_val (v_idxS (size := 1) (k := .i64) (by kernel_rfl) rfl rfl (by decide)) ?_
  refine s_val (v_load1o (v := I x) (by kernel_rfl) rfl (by simpa using hx)) ?_
  refine s_val (v_assign (v := .int .i64 _) rfl) ?_
  refine s_nil ?_
  refine r_seq (by kernel_rfl) ?_
  refine s_val (v_move (v := .int .i64 _) rfl) ?_
  refine s_val (v_move (v := .int .i64 _) rfl) ?_
  refine s_val (v_neq (k := .i64) rfl rfl) ?_
  refine s_nil ?_
  refine c_condN rfl rfl (fun h14 => ?_) (fun h14 => ?_)
  · refine r_seq (by kernel_rfl) ?_
    refine s_val (v_move (v := .int .i64 _) rfl) ?_
    refine s_val (v_assign (v := .int .i64 _) rfl) ?_
    refine s_nil ?_
    refine c_ret ?_
    refine n_bret ?_
    refine n_ret ?_
    refine n_ret ?_
    refine n_bret ?_
    refine n_ret ?_
    refine n_done rfl (by decide) (Eq.trans (b := .int .i64 _) rfl (congrArg (Value.int .i64) ?_))
    simp_all
  refine c_skip ?_
  refine n_bnormal ?_
  refine n_then ?_
  refine r_list (by kernel_rfl) ?_
  refine s_val (v_addL (c := 1) rfl rfl (by decide) (by decide)) ?_
  refine s_val (v_move (v := .int .i64 _) rfl) ?_
  refine s_end ?_
  refine n_thenR ?_
  refine r_succ ?_
  refine r_seq (by kernel_rfl) ?_
  refine s_val (v_lss (k := .i64) rfl rfl) ?_
  refine s_nil ?_
  refine c_seq ?_
  refine c_condTh rfl rfl rfl ?_
  refine c_skip ?_
  refine n_then ?_
  refine c_seq ?_
  refine c_block ?_
  refine r_seq (by kernel_rfl) ?_
  refine s_val (v_idxS (size := 1) (k := .i64) (by kernel_rfl) rfl rfl (by decide)) ?_
  refine s_val (v_load1o (v := I y) (by kernel_rfl) rfl (by simpa using hy)) ?_
  refine s_val (v_assign (v := .int .i64 _) rfl) ?_
  refine s_nil ?_
  refine r_seq (by kernel_rfl) ?_
  refine s_val (v_move (v := .int .i64 _) rfl) ?_
  refine s_val (v_move (v := .int .i64 _) rfl) ?_
  refine s_val (v_neq (k := .i64) rfl rfl) ?_
  refine s_nil ?_
  refine c_condN rfl rfl (fun h14 => ?_) (fun h14 => ?_)
  · refine r_seq (by kernel_rfl) ?_
    refine s_val (v_move (v := .int .i64 _) rfl) ?_
    refine s_val (v_assign (v := .int .i64 _) rfl) ?_
    refine s_nil ?_
    refine c_ret ?_
    refine n_bret ?_
    refine n_ret ?_
    refine n_ret ?_
    refine n_bret ?_
    refine n_ret ?_
    refine n_done rfl (by decide) (Eq.trans (b := .int .i64 _) rfl (congrArg (Value.int .i64) ?_))
    simp_all
  refine c_skip ?_
  refine n_bnormal ?_
  refine n_then ?_
  refine r_list (by kernel_rfl) ?_
  refine s_val (v_addL (c := 2) rfl rfl (by decide) (by decide)) ?_
  refine s_val (v_move (v := .int .i64 _) rfl) ?_
  refine s_end ?_
  refine n_thenR ?_
  refine r_succ ?_
  refine r_seq (by kernel_rfl) ?_
  refine s_val (v_lss (k := .i64) rfl rfl) ?_
  refine s_nil ?_
  refine c_seq ?_
  refine c_condFh rfl rfl rfl ?_
  refine c_exit ?_
  refine n_exit ?_
  refine n_exit ?_
  refine n_bhere ?_
  refine n_then ?_
  refine r_seq (by kernel_rfl) ?_
  refine s_val (v_move (v := .int .i64 _) rfl) ?_
  refine s_val (v_assign (v := .int .i64 _) rfl) ?_
  refine s_nil ?_
  refine c_ret ?_
  refine n_done rfl (by decide) (Eq.trans (b := .int .i64 _) rfl (congrArg (Value.int .i64) ?_))
  simp_all

theorem g_compare (p q : PayS) (w : World) : Gives Try.prog 48 [.agg p.cells, .agg q.cells] w (I (cmpP p q)) := by
  refine gives_of Try.func48 rfl Try.ntmps48 (by simp) ?_
  refine r_seq (by kernel_rfl) ?_
  refine s_box (v := .agg _) rfl (fun b2 => ?_)
  refine s_box (v := .agg _) rfl (fun b3 => ?_)
  refine s_val (v_assign (v := .int .i64 _) rfl) ?_
  refine s_nil ?_
  refine t_seq (k := 10) (by kernel_rfl) (by kernel_rfl) (fun w hw => hw.drew) (by kernel_rfl) ?_
  refine q_val (v_field (fo := 3) (by kernel_rfl) rfl) ?_
  refine q_val (v_load1 (v := .int .i64 _) (by kernel_rfl) rfl (.there .here) rfl) ?_
  refine q_val (v_field (fo := 3) (by kernel_rfl) rfl) ?_
  refine q_val (v_load1 (v := .int .i64 _) (by kernel_rfl) rfl .here rfl) ?_
  refine q_call (by kernel_rfl) (fun w hw => g_Compare _ _ w) ?_
  refine q_val (v_field (fo := 5) (by kernel_rfl) rfl) ?_
  refine q_val (v_load1 (v := .int .i64 _) (by kernel_rfl) rfl (.there .here) rfl) ?_
  refine q_val (v_field (fo := 5) (by kernel_rfl) rfl) ?_
  refine q_val (v_load1 (v := .int .i64 _) (by kernel_rfl) rfl .here rfl) ?_
  refine q_call (by kernel_rfl) (fun w hw => g_Compare _ _ w) ?_
  refine q_tail ?_
  refine s_buildS (e := 3) (vs := [(0, .int .i64 _), (1, .int .i64 _)]) (cs := #[I (cmpI p.cls q.cls), I (cmpI p.seq q.seq)]) rfl (by kernel_rfl) (fun b15 => ?_)
  refine s_call (by kernel_rfl) (fun w hw => g_Or b15 0 _ _ _ w ((cell_has hw .here).trans rfl) ((cell_has hw .here).trans rfl)) ?_
  refine s_val (v_assign (v := .int .i64 _) rfl) ?_
  refine s_nil ?_
  refine c_ret ?_
  refine n_done rfl (by decide) (Eq.trans (b := .int .i64 _) rfl (congrArg (Value.int .i64) ?_))
  rfl

theorem g_Of1 (h : H) (ps : List PayS) (bh : Nat) (i k : Int) (p q : PayS) (w : World) (hp : PaysIn (At w) h.pa h.pl ps) (hcell : At w ⟨bh, 40, none⟩ (.slice h.pa h.pl h.pc)) (hi : 0 ≤ i) (hk : 0 ≤ k) (hpi : ps[i.toNat]? = some p) (hpk : ps[k.toNat]? = some q) : Gives Try.prog 47 [I i, I k, .pointer (some ⟨bh, 0, none⟩)] w (I (cmpP p q)) := by
  have hl := hp.1
  have hi1 := (List.getElem?_eq_some_iff.1 hpi).1
  have hk1 := (List.getElem?_eq_some_iff.1 hpk).1
  obtain ⟨b, o, hpa, hc⟩ := hp.some (k := i.toNat) (by omega)
  refine gives_of Try.func47 rfl Try.ntmps47 (by simp) ?_
  refine r_seq (by kernel_rfl) ?_
  refine s_val (v_assign (v := .int .i64 _) rfl) ?_
  refine s_nil ?_
  refine d_seq (by kernel_rfl) (by kernel_rfl) (fun w hw => hw.drew) (by kernel_rfl) ?_
  refine q_val (v_field (fo := 40) (by kernel_rfl) rfl) ?_
  refine q_val (v_load1o (v := .slice h.pa h.pl h.pc) (by kernel_rfl) rfl (by simpa using hcell)) ?_
  refine q_val (v_move (v := .int .i64 _) rfl) ?_
  refine q_val (v_idxS (size := 6) (k := .i64) (by kernel_rfl) (congrArg (fun a => Value.slice a h.pl h.pc) hpa) rfl ⟨by omega, by omega⟩) ?_
  refine q_val (v_loadNo (cs := p.cells) (m := 6) (by kernel_rfl) rfl rfl (hc _ p hpi)) ?_
  refine q_val (v_field (fo := 40) (by kernel_rfl) rfl) ?_
  refine q_val (v_load1o (v := .slice h.pa h.pl h.pc) (by kernel_rfl) rfl (by simpa using hcell)) ?_
  refine q_val (v_move (v := .int .i64 _) rfl) ?_
  refine q_val (v_idxS (size := 6) (k := .i64) (by kernel_rfl) (congrArg (fun a => Value.slice a h.pl h.pc) hpa) rfl ⟨by omega, by omega⟩) ?_
  refine q_val (v_loadNo (cs := q.cells) (m := 6) (by kernel_rfl) rfl rfl (hc _ q hpk)) ?_
  refine q_call (by kernel_rfl) (fun w hw => g_compare p q w) ?_
  refine q_val (v_assign (v := .int .i64 _) rfl) ?_
  refine q_nil ?_
  refine c_ret ?_
  refine n_done rfl (by decide) (Eq.trans (b := .int .i64 _) rfl (congrArg (Value.int .i64) ?_))
  rfl

end Go.Proofs.Ytbgnmapmiobjcaa
