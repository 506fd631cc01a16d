/- Contracts of the queues and of settling. Condition: the payments lie in memory that is known. -/
import Derived.Test.YtbgnmapmiobjcaaW20
import Derived.Test.YtbgnmapmiobjcaaK22
namespace Go.Proofs.Ytbgnmapmiobjcaa
open Go.RowKit
set_option linter.unusedSimpArgs false
set_option linter.unusedVariables false
set_option maxRecDepth 100000
attribute [local irreducible] cC sC nC rC qw

theorem g_Of (h : H) (ps : List PayS) (bank : Int) (w : World) (hp : PaysIn (At w) h.pa h.pl ps) (hb : h.pl * 48 ≤ 281474976710656) (hlc : h.pl ≤ h.pc) (hsa : SeqsApart ps) (hbk : (0 ≤ bank ∧ bank < 4) ∨ GoodPs ps) : GivesE Try.prog 29 [.agg h.cells, I bank] w (fun v E => ListE 3 1 v (queueM ps bank).length ((queueM ps bank).map I) E) := by
  refine givesE_of Try.func29 rfl Try.ntmps29 (by simp) ?_
  refine r_seq (by kernel_rfl) ?_
  refine s_box (v := .agg _) rfl (fun b2 => ?_)
  refine s_val (v_assign (v := .slice _ _ _) rfl) ?_
  refine s_nil ?_
  refine c_seq ?_
  refine r_seq (by kernel_rfl) ?_
  refine s_val (v_move (v := .int .i64 _) rfl) ?_
  refine s_val (v_lss (k := .i64) rfl rfl) ?_
  refine s_val (v_move (v := .bool _) rfl) ?_
  refine s_split (s := 10) rfl (fun h10 => ?_) (fun h10 => ?_)
  · refine s_pass rfl rfl h10 ?_
    refine s_pass rfl rfl h10 ?_
    refine s_val (v_pickT (v := .bool _) rfl h10 rfl) ?_
    refine s_nil ?_
    refine c_condTh rfl rfl rfl ?_
    refine r_seq (by kernel_rfl) ?_
    refine s_val (v_assign (v := .slice _ _ _) rfl) ?_
    refine s_nil ?_
    refine c_ret ?_
    refine n_ret ?_
    have hnb : ¬ (0 ≤ bank ∧ bank < 4) := by have := of_decide_eq_true h10; omega
    refine n_doneE (E := []) (L := [_]) rfl (by decide) ?_
    show ListE _ _ (.slice none 0 0) _ _ []
    rw [wait_none hnb (hbk.resolve_left hnb)]
    exact listE_nil _ _
  refine s_want rfl rfl h10 ?_
  refine s_val (v_move (v := .int .i64 _) rfl) ?_
  refine s_want rfl rfl h10 ?_
  refine s_val (v_geq (k := .i64) rfl rfl) ?_
  refine s_val (v_pickF (v := .bool _) rfl h10 rfl) ?_
  refine s_nil ?_
  refine c_cond rfl rfl (fun h13 => ?_) (fun h13 => ?_)
  · refine r_seq (by kernel_rfl) ?_
    refine s_val (v_assign (v := .slice _ _ _) rfl) ?_
    refine s_nil ?_
    refine c_ret ?_
    refine n_ret ?_
    have hnb : ¬ (0 ≤ bank ∧ bank < 4) := by have := of_decide_eq_true h13; omega
    refine n_doneE (E := []) (L := [_]) rfl (by decide) ?_
    show ListE _ _ (.slice none 0 0) _ _ []
    rw [wait_none hnb (hbk.resolve_left hnb)]
    exact listE_nil _ _
  refine c_skip ?_
  refine n_then ?_
  refine r_seq (by kernel_rfl) ?_
  refine s_val (v_assign (v := .slice _ _ _) rfl) ?_
  refine s_nil ?_
  refine c_seq ?_
  refine r_seq (by kernel_rfl) ?_
  refine s_val (v_field (fo := 40) (by kernel_rfl) rfl) ?_
  refine s_val (v_load1 (v := .slice _ _ _) (by kernel_rfl) rfl .here (H.at_pays _)) ?_
  refine s_val (v_lenS (T := 27) (m := 6) (by kernel_rfl) rfl rfl) ?_
  refine s_val (v_move (v := .int .i64 _) rfl) ?_
  refine s_nil ?_
  refine c_block ?_
  refine c_loop (σ := Nat × Value × List (Nat × Obj)) (fun ((k, v, E) : Nat × Value × List (Nat × Obj)) f => ∃ g, (k ≤ h.pl ∧ ListE 3 1 v (waitTo ps bank k).length ((waitTo ps bank k).map I) E) ∧ f = (upd (upd (upd (upd (upd (upd g 1 (I bank)) 2 (.pointer (some ⟨b2, 0, none⟩))) 5 (v)) 15 (.slice h.pa h.pl h.pc)) 16 (I h.pl)) 17 (I k))) (fun ((k, v, E) : Nat × Value × List (Nat × Obj)) => Has w (At w) (E ++ [(b2, .cells h.cells 29)])) (fun ((k, v, E) : Nat × Value × List (Nat × Obj)) => h.pl - k) (0, .slice none 0 0, []) ⟨_, ⟨Nat.zero_le _, listE_nil _ _⟩, live6 rfl rfl rfl rfl rfl rfl⟩ (fun w hw => hw) ?_
  rintro ⟨k, v, E⟩ _ ⟨g, ⟨hkl, hE⟩, rfl⟩
  refine r_seq (by kernel_rfl) ?_
  refine s_val (v_lss (k := .i64) rfl rfl) ?_
  refine s_nil ?_
  refine c_seq ?_
  refine c_condR rfl rfl (fun h18 => ?_) (fun h18 => ?_)
  · obtain rfl : k = h.pl := by have := of_decide_eq_false h18; omega
    refine c_exit ?_
    refine n_exit ?_
    refine n_exit ?_
    refine n_bhere ?_
    refine n_then ?_
    refine r_seq (by kernel_rfl) ?_
    refine s_val (v_move (v := _) rfl) ?_
    refine s_val (v_makeFunc (vs := [.pointer (some ⟨b2, 0, none⟩)]) rfl) ?_
    refine s_sort (ps := ps) rfl rfl (enters_of Try.func47 (by kernel_rfl) rfl) hE (fun i hi => by have := ((wait_spec ps bank h.pl).2 i).1 hi; exact this.1.lt) (by have := wait_len ps bank h.pl; omega) (fun W hW i j p q hi hj hpi hpj => g_Of1 h ps b2 i j p q W (hp.at hW) ((cell_has hW .here).trans (H.at_pays h)) hi hj hpi hpj) (fun E38 ws38 hE38 hpm38 hso38 => ?_)
    have hq38 : ws38 = queueM ps bank := sorted_queue hsa (by rw [hp.1]; exact hpm38) hso38
    refine s_nil ?_
    refine r_seq (by kernel_rfl) ?_
    refine s_val (v_move (v := _) rfl) ?_
    refine s_val (v_assign (v := _) rfl) ?_
    refine s_nil ?_
    refine c_ret ?_
    refine n_doneE rfl (by decide) ?_
    show ListE _ _ v _ _ E38
    rw [← hq38]
    exact hE38
  have hk0 := of_decide_eq_true h18
  obtain ⟨p, hpm, hd, ht⟩ := hp.get (k := k) (by omega)
  obtain ⟨b, o, hpa, hc⟩ := hp.some (k := k) (by omega)
  have hst0 := wait_step (bank := bank) hpm
  have hwl := wait_len ps bank k
  refine c_skip ?_
  refine n_then ?_
  refine c_seq ?_
  refine c_block ?_
  refine r_seq (by kernel_rfl) ?_
  refine s_val (v_move (v := .int .i64 _) rfl) ?_
  refine s_val (v_idxS (size := 6) (k := .i64) (by kernel_rfl) (congrArg (fun a => Value.slice a h.pl h.pc) hpa) rfl ⟨by omega, by omega⟩) ?_
  refine s_val (v_loadNo (cs := p.cells) (m := 6) (by kernel_rfl) rfl rfl (hc k p hpm)) ?_
  refine s_alloc (z := zeroOf Try.prog 36) (by kernel_rfl) (fun b7 => ?_)
  refine s_val (v_assign (v := .int .i64 _) rfl) ?_
  refine s_storeA (m := 6) (by kernel_rfl) rfl rfl .here (by kernel_rfl) rfl (PayS.all1 _) ?_
  refine s_nil ?_
  refine r_seq (by kernel_rfl) ?_
  refine s_val (v_field (fo := 0) (by kernel_rfl) rfl) ?_
  refine s_val (v_load1 (v := .int .i64 _) (by kernel_rfl) rfl .here rfl) ?_
  refine s_val (v_move (v := .int .i64 _) rfl) ?_
  refine s_val (v_eql (k := .i64) rfl rfl) ?_
  refine s_val (v_move (v := .bool _) rfl) ?_
  refine s_splitR (s := 26) rfl (fun h26 => ?_) (fun h26 => ?_)
  · have hst : waitTo ps bank (k + 1) = waitTo ps bank k := by rw [hst0]; simp only [*, Bool.true_and, Bool.false_and, Bool.and_true, Bool.and_false, Bool.not_true, Bool.not_false, Bool.true_or, Bool.or_true, Bool.false_or, Bool.or_false, cond_true, cond_false, if_true, if_false, Bool.false_eq_true, decide_true, decide_false]
    refine s_pass rfl rfl h26 ?_
    refine s_pass rfl rfl h26 ?_
    refine s_pass rfl rfl h26 ?_
    refine s_val (v_pickF (v := .bool _) rfl h26 rfl) ?_
    refine s_nil ?_
    refine c_condFh rfl rfl rfl ?_
    refine c_skip ?_
    refine n_bnormal ?_
    refine n_then ?_
    refine r_list (by kernel_rfl) ?_
    refine s_val (v_add rfl rfl (by omega)) ?_
    refine s_val (v_move (v := .int .i64 _) rfl) ?_
    refine s_end ?_
    refine n_round (s := (k, v, E)) (k + 1, v, E) ⟨_, ⟨by omega, by rw [hst]; exact hE⟩, live6 rfl rfl rfl rfl rfl rfl⟩ (fun _ hw => hw.tail) (by dsimp only; omega)
  refine s_want rfl rfl h26 ?_
  refine s_val (v_field (fo := 4) (by kernel_rfl) rfl) ?_
  refine s_want rfl rfl h26 ?_
  refine s_val (v_load1 (v := .int .i64 _) (by kernel_rfl) rfl .here rfl) ?_
  refine s_want rfl rfl h26 ?_
  refine s_val (v_eql (k := .i64) rfl rfl) ?_
  refine s_val (v_pickT (v := .bool _) rfl h26 rfl) ?_
  refine s_nil ?_
  refine c_condR rfl rfl (fun h30 => ?_) (fun h30 => ?_)
  · have hst : waitTo ps bank (k + 1) = waitTo ps bank k := by rw [hst0]; simp only [*, Bool.true_and, Bool.false_and, Bool.and_true, Bool.and_false, Bool.not_true, Bool.not_false, Bool.true_or, Bool.or_true, Bool.false_or, Bool.or_false, cond_true, cond_false, if_true, if_false, Bool.false_eq_true, decide_true, decide_false]
    refine c_skip ?_
    refine n_bnormal ?_
    refine n_then ?_
    refine r_list (by kernel_rfl) ?_
    refine s_val (v_add rfl rfl (by omega)) ?_
    refine s_val (v_move (v := .int .i64 _) rfl) ?_
    refine s_end ?_
    refine n_round (s := (k, v, E)) (k + 1, v, E) ⟨_, ⟨by omega, by rw [hst]; exact hE⟩, live6 rfl rfl rfl rfl rfl rfl⟩ (fun _ hw => hw.tail) (by dsimp only; omega)
  refine c_weak (fun _ hw => hw.tail) ?_
  have hst : waitTo ps bank (k + 1) = waitTo ps bank k ++ [(k : Int)] := by rw [hst0]; simp only [*, Bool.true_and, Bool.false_and, Bool.and_true, Bool.and_false, Bool.not_true, Bool.not_false, Bool.true_or, Bool.or_true, Bool.false_or, Bool.or_false, cond_true, cond_false, if_true, if_false, Bool.false_eq_true, decide_true, decide_false]
  refine r_list (by kernel_rfl) ?_
  refine s_val (v_move (v := _) rfl) ?_
  refine s_val (v_move (v := .int .i64 _) rfl) ?_
  refine s_build1 (v := .int .i64 _) (e := 3) (m := 1) (by_ := 8) (by kernel_rfl) rfl rfl rfl (fill_scalar rfl) (fun b33 => ?_)
  refine s_push (e := 3) (m := 1) (by_ := 8) (by kernel_rfl) rfl rfl rfl rfl rfl hE rfl (all_scalar rfl rfl) (by omega) (fun v34 E34 hE34 => ?_)
  refine s_val (v_assign (v := _) rfl) ?_
  refine s_end ?_
  refine n_bnormal ?_
  refine n_then ?_
  refine r_list (by kernel_rfl) ?_
  refine s_val (v_add rfl rfl (by omega)) ?_
  refine s_val (v_move (v := .int .i64 _) rfl) ?_
  refine s_end ?_
  refine n_round (s := (k, v, E)) (k + 1, v34, E34) ⟨_, ⟨by omega, by rw [hst, List.map_append, List.length_append]; exact hE34⟩, live6 rfl rfl rfl rfl rfl rfl⟩ (fun _ hw => hw) (by dsimp only; omega)

theorem g_Clone (pa : Option Addr) (pl pc : Nat) (ps : List PayS) (w : World) (hp : PaysIn (At w) pa pl ps) (hb : pl * 48 ≤ 281474976710656) (h0 : 0 < pl) : GivesE Try.prog 49 [.slice pa pl pc] w (fun v E => ∃ a c, v = .slice a pl c ∧ PaysE a pl c ps E) := by
  have hnn : pa.isNone = false := by obtain ⟨b, o, e, _⟩ := hp.some (k := 0) h0; rw [e]; rfl
  refine givesE_of Try.func49 rfl Try.ntmps49 (by simp) ?_
  refine r_seq (by kernel_rfl) ?_
  refine s_val (v_assign (v := .slice _ _ _) rfl) ?_
  refine s_nil ?_
  refine c_seq ?_
  refine r_seq (by kernel_rfl) ?_
  refine s_val (v_move (v := .slice _ _ _) rfl) ?_
  refine s_val (v_eqNil (m := 6) (by kernel_rfl) rfl rfl) ?_
  refine s_nil ?_
  refine c_condFh rfl rfl hnn ?_
  refine c_skip ?_
  refine n_then ?_
  refine r_seq (by kernel_rfl) ?_
  refine s_build0 (e := 36) (m := 6) (by_ := 48) (by kernel_rfl) (fun b5 => ?_)
  refine s_val (v_move (v := .slice _ _ _) rfl) ?_
  refine s_appendCopy0 (by kernel_rfl) rfl rfl rfl hp hb h0 (fun b7 c7 cs7 hc7 hs7 hcs7 => ?_)
  refine s_val (v_assign (v := .slice _ _ _) rfl) ?_
  refine s_nil ?_
  refine c_ret ?_
  refine n_doneE (E := [_]) (L := [_]) rfl (by decide) ?_
  exact ⟨_, c7, rfl, hp.1, hc7, .inr ⟨b7, _, cs7, rfl, rfl, hs7, hcs7⟩⟩

theorem g_Settle (h : H) (ps : List PayS) (n : Int) (w : World) (hp : PaysIn (At w) h.pa h.pl ps) (hb : h.pl * 48 ≤ 281474976710656) (hlc : h.pl ≤ h.pc) : GivesF Try.prog 31 [.agg h.cells, I n] w (HouseF h ps (settleC h.core ps n) (settleP ps n)) := by
  refine givesF_of Try.func31 rfl Try.ntmps31 (by simp) ?_
  refine r_seq (by kernel_rfl) ?_
  refine s_box (v := .agg _) rfl (fun b2 => ?_)
  refine s_alloc (z := .agg zeroH.cells) (by kernel_rfl) (fun b4 => ?_)
  refine s_nil ?_
  refine c_seq ?_
  refine r_seq (by kernel_rfl) ?_
  refine s_val (v_move (v := .int .i64 _) rfl) ?_
  refine s_val (v_lss (k := .i64) rfl rfl) ?_
  refine s_val (v_move (v := .bool _) rfl) ?_
  refine s_split (s := 8) rfl (fun h8 => ?_) (fun h8 => ?_)
  · refine s_pass rfl rfl h8 ?_
    refine s_pass rfl rfl h8 ?_
    refine s_pass rfl rfl h8 ?_
    refine s_pass rfl rfl h8 ?_
    refine s_pass rfl rfl h8 ?_
    refine s_val (v_pickT (v := .bool _) rfl h8 rfl) ?_
    refine s_val (v_move (v := .bool _) rfl) ?_
    refine s_pass (g := true) rfl rfl rfl ?_
    refine s_pass (g := true) rfl rfl rfl ?_
    refine s_pass (g := true) rfl rfl rfl ?_
    refine s_pass (g := true) rfl rfl rfl ?_
    refine s_pass (g := true) rfl rfl rfl ?_
    refine s_pass (g := true) rfl rfl rfl ?_
    refine s_pass (g := true) rfl rfl rfl ?_
    refine s_val (v_pickT (v := .bool _) rfl rfl rfl) ?_
    refine s_nil ?_
    refine c_condTh rfl rfl rfl ?_
    refine r_seq (by kernel_rfl) ?_
    refine s_val (v_loadA (m := 42) (by kernel_rfl) rfl (.there .here) (H.size _)) ?_
    refine s_storeA (m := 42) (by kernel_rfl) rfl rfl .here (H.size _) (H.size _) (H.all1 _) ?_
    refine s_nil ?_
    refine c_ret ?_
    refine n_ret ?_
    refine n_doneCF (m := 42) rfl (by decide) rfl (by kernel_rfl) .here (H.size _) (fun w hw => ⟨h, rfl, ?_, hlc, .inl ⟨rfl, rfl, ?_⟩⟩)
    · have es : settles ps n = none := settles_out (by have := of_decide_eq_true h8; omega)
      simp only [settleC, es]
    · have es : settles ps n = none := settles_out (by have := of_decide_eq_true h8; omega)
      simp only [settleP, es]
  refine s_want rfl rfl h8 ?_
  refine s_val (v_move (v := .int .i64 _) rfl) ?_
  refine s_want rfl rfl h8 ?_
  refine s_val (v_field (fo := 40) (by kernel_rfl) rfl) ?_
  refine s_want rfl rfl h8 ?_
  refine s_val (v_load1 (v := .slice _ _ _) (by kernel_rfl) rfl (.there .here) (H.at_pays _)) ?_
  refine s_want rfl rfl h8 ?_
  refine s_val (v_lenS (T := 27) (m := 6) (by kernel_rfl) rfl rfl) ?_
  refine s_want rfl rfl h8 ?_
  refine s_val (v_geq (k := .i64) rfl rfl) ?_
  refine s_val (v_pickF (v := .bool _) rfl h8 rfl) ?_
  refine s_val (v_move (v := .bool _) rfl) ?_
  refine s_split (s := 15) rfl (fun h15 => ?_) (fun h15 => ?_)
  · refine s_pass rfl rfl h15 ?_
    refine s_pass rfl rfl h15 ?_
    refine s_pass rfl rfl h15 ?_
    refine s_pass rfl rfl h15 ?_
    refine s_pass rfl rfl h15 ?_
    refine s_pass rfl rfl h15 ?_
    refine s_pass rfl rfl h15 ?_
    refine s_val (v_pickT (v := .bool _) rfl h15 rfl) ?_
    refine s_nil ?_
    refine c_condTh rfl rfl rfl ?_
    refine r_seq (by kernel_rfl) ?_
    refine s_val (v_loadA (m := 42) (by kernel_rfl) rfl (.there .here) (H.size _)) ?_
    refine s_storeA (m := 42) (by kernel_rfl) rfl rfl .here (H.size _) (H.size _) (H.all1 _) ?_
    refine s_nil ?_
    refine c_ret ?_
    refine n_ret ?_
    refine n_doneCF (m := 42) rfl (by decide) rfl (by kernel_rfl) .here (H.size _) (fun w hw => ⟨h, rfl, ?_, hlc, .inl ⟨rfl, rfl, ?_⟩⟩)
    · have es : settles ps n = none := settles_out (by have := of_decide_eq_true h15; have := hp.1; omega)
      simp only [settleC, es]
    · have es : settles ps n = none := settles_out (by have := of_decide_eq_true h15; have := hp.1; omega)
      simp only [settleP, es]
  have hn0 := of_decide_eq_false h8
  have hn1 := of_decide_eq_false h15
  replace hn0 : 0 ≤ n := by omega
  obtain ⟨p, hpn, hd, ht⟩ := hp.get (k := n.toNat) (by omega)
  obtain ⟨b, o, hpa, hc⟩ := hp.some (k := n.toNat) (by omega)
  refine s_want rfl rfl h15 ?_
  refine s_val (v_field (fo := 40) (by kernel_rfl) rfl) ?_
  refine s_want rfl rfl h15 ?_
  refine s_val (v_load1 (v := .slice _ _ _) (by kernel_rfl) rfl (.there .here) (H.at_pays _)) ?_
  refine s_want rfl rfl h15 ?_
  refine s_val (v_move (v := .int .i64 _) rfl) ?_
  refine s_want rfl rfl h15 ?_
  refine s_val (v_idxS (size := 6) (k := .i64) (by kernel_rfl) (congrArg (fun a => Value.slice a h.pl h.pc) hpa) rfl ⟨by omega, by omega⟩) ?_
  refine s_want rfl rfl h15 ?_
  refine s_val (v_field (fo := 4) (by kernel_rfl) rfl) ?_
  refine s_want rfl rfl h15 ?_
  refine s_val (v_load1o (by kernel_rfl) rfl (hc _ p hpn 4 _ rfl)) ?_
  refine s_want rfl rfl h15 ?_
  refine s_val (v_neq (k := .i64) rfl rfl) ?_
  refine s_val (v_pickF (v := .bool _) rfl h15 rfl) ?_
  refine s_nil ?_
  refine c_condN rfl rfl (fun h23 => ?_) (fun h23 => ?_)
  · refine r_seq (by kernel_rfl) ?_
    refine s_val (v_loadA (m := 42) (by kernel_rfl) rfl (.there .here) (H.size _)) ?_
    refine s_storeA (m := 42) (by kernel_rfl) rfl rfl .here (H.size _) (H.size _) (H.all1 _) ?_
    refine s_nil ?_
    refine c_ret ?_
    refine n_ret ?_
    refine n_doneCF (m := 42) rfl (by decide) rfl (by kernel_rfl) .here (H.size _) (fun w hw => ⟨h, rfl, ?_, hlc, .inl ⟨rfl, rfl, ?_⟩⟩)
    · have es : settles ps n = none := settles_not hpn (of_decide_eq_false h23)
      simp only [settleC, es]
    · have es : settles ps n = none := settles_not hpn (of_decide_eq_false h23)
      simp only [settleP, es]
  refine c_skip ?_
  refine n_then ?_
  refine r_seq (by kernel_rfl) ?_
  refine s_val (v_field (fo := 40) (by kernel_rfl) rfl) ?_
  refine s_val (v_load1 (v := .slice _ _ _) (by kernel_rfl) rfl (.there .here) (H.at_pays _)) ?_
  refine s_val (v_move (v := .int .i64 _) rfl) ?_
  refine s_val (v_idxS (size := 6) (k := .i64) (by kernel_rfl) (congrArg (fun a => Value.slice a h.pl h.pc) hpa) rfl ⟨by omega, by omega⟩) ?_
  refine s_val (v_loadNo (cs := p.cells) (m := 6) (by kernel_rfl) rfl rfl (hc _ p hpn)) ?_
  refine s_alloc (z := zeroOf Try.prog 36) (by kernel_rfl) (fun b5 => ?_)
  refine s_storeA (m := 6) (by kernel_rfl) rfl rfl .here (by kernel_rfl) rfl (PayS.all1 _) ?_
  refine s_nil ?_
  refine r_seq (by kernel_rfl) ?_
  refine s_val (v_loadA (m := 42) (by kernel_rfl) rfl (.there (.there .here)) (H.size _)) ?_
  refine s_val (v_field (fo := 0) (by kernel_rfl) rfl) ?_
  refine s_val (v_load1 (v := .int .i64 _) (by kernel_rfl) rfl .here rfl) ?_
  refine s_val (v_field (fo := 1) (by kernel_rfl) rfl) ?_
  refine s_val (v_load1 (v := .int .i64 _) (by kernel_rfl) rfl .here rfl) ?_
  refine s_val (v_field (fo := 2) (by kernel_rfl) rfl) ?_
  refine s_val (v_load1 (v := .int .i64 _) (by kernel_rfl) rfl .here rfl) ?_
  refine s_call (by kernel_rfl) (fun w hw => g_Move _ _ _ _ w) ?_
  refine s_storeA (m := 42) (by kernel_rfl) rfl rfl (.there (.there .here)) (H.size _) (H.size _) (H.all1 _) ?_
  refine s_nil ?_
  refine r_seq (by kernel_rfl) ?_
  refine s_val (v_field (fo := 40) (by kernel_rfl) rfl) ?_
  refine s_val (v_load1 (v := .slice _ _ _) (by kernel_rfl) rfl (.there (.there .here)) (H.at_pays _)) ?_
  refine s_callE (by kernel_rfl) (fun w hw => g_Clone _ _ _ ps w (by rw [move_pa, move_pl]; exact hp.at hw) (by rw [move_pl]; exact hb) (by rw [move_pl]; omega)) (fun v40 E40 hR40 => ?_)
  obtain ⟨a40, c40, rfl, hpe40⟩ := hR40
  obtain ⟨b40, t40, cs40, rfl, rfl, hsz40, hcs40⟩ := hpe40.some (by rw [move_pl]; omega)
  have hle40 := hpe40.2.1
  refine s_val (v_field (fo := 40) (by kernel_rfl) rfl) ?_
  refine s_store1 (v := .slice _ _ _) (by kernel_rfl) rfl rfl (.there (.there (.there .here))) (H.set_pays _) rfl ?_
  refine s_nil ?_
  refine r_seq (by kernel_rfl) ?_
  refine s_val (v_field (fo := 40) (by kernel_rfl) rfl) ?_
  refine s_val (v_load1 (v := .slice _ _ _) (by kernel_rfl) rfl (.there (.there (.there .here))) (H.at_pays _)) ?_
  refine s_val (v_move (v := .int .i64 _) rfl) ?_
  refine s_val (v_idxS (size := 6) (k := .i64) (by kernel_rfl) rfl rfl ⟨by omega, by rw [move_pl]; omega⟩) ?_
  refine s_val (v_field (fo := 4) (by kernel_rfl) rfl) ?_
  refine s_store1 (v := .int .i64 _) (by kernel_rfl) rfl rfl .here ⟨by rw [hsz40]; rw [move_pl] at hle40; omega, rfl⟩ rfl ?_
  refine s_nil ?_
  refine r_seq (by kernel_rfl) ?_
  refine s_val (v_loadA (m := 42) (by kernel_rfl) rfl (.there (.there (.there .here))) (H.size _)) ?_
  refine s_storeA (m := 42) (by kernel_rfl) rfl rfl (.there (.there .here)) (H.size _) (H.size _) (H.all1 _) ?_
  refine s_nil ?_
  refine c_ret ?_
  refine n_doneCF (m := 42) rfl (by decide) rfl (by kernel_rfl) (.there (.there .here)) (H.size _) (fun w hw => ?_)
  have es := settles_of hn0 hpn (of_decide_eq_true h23)
  refine ⟨_, rfl, ?_, hle40, .inr ?_⟩
  · simp only [settleC, es]; exact core_move _ _ _ _
  · simp only [settleP, es]
    exact own_pays hw .here (by rw [List.length_set, hp.1, move_pl]) (hcs40.settled hpn)

end Go.Proofs.Ytbgnmapmiobjcaa
