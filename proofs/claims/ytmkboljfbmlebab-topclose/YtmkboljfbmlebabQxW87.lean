/- The law TopClose. Condition: a bank that keeps its contracts. -/
import Derived.Test.YtmkboljfbmlebabQ13
import Derived.Test.YtmkboljfbmlebabQxW86
namespace Go.Proofs.Ytmkboljfbmlebab
open Go.RowKit
set_option linter.unusedSimpArgs false
set_option linter.unusedVariables false
set_option maxRecDepth 100000
attribute [local irreducible] cC sC nC rC qw
set_option maxHeartbeats 1000000 in
theorem law_TopClose (bk : BankOk) (a0 : Option Addr) (c0 : Nat) (xs : List ActS) (w : World) (hx : ActsAt (At w) a0 xs) (hlx : xs.length ≤ 9223372036854775807) : Gives Try.prog 11 [.slice a0 xs.length c0] w (.bool true) := by
 refine gives_of Try.func11 rfl Try.ntmps11 (by simp) ?_
 refine r_seq (by kernel_rfl) ?_
 refine s_val (v_assign (v := .bool _) rfl) ?_
 refine s_nil ?_
 refine r_seq (by kernel_rfl) ?_
 refine s_val (v_move (v := .slice _ _ _) rfl) ?_
 refine s_callW (B := []) (by kernel_rfl) (g_play bk (fun _ : Unit => []) (fun _ _ _ _ => True) a0 c0 xs 35 [] (At w) () hx hlx trivial (fun _ _ => trivial) (by kernel_rfl) (looks_plain bk xs 35 (At w) (fun F1 s r x b B E a1 l1 c1 hg hr => look_quiet bk F1 s r x b B E a1 l1 c1 hg hr))) (fun F13 v13 B130 hF13 hR13 => ?_)
 obtain ⟨b13, B13, _, rfl, rfl, hr13, hg13, _⟩ := hR13
 refine s_weak (fun w1 hw => show Has w F13 (B13 ++ _) w1 from (by rw [List.append_nil] at hw; exact hw)) ?_
 refine s_val (v_move (v := .tuple _) rfl) ?_
 refine s_val (v_extract rfl rfl) ?_
 refine s_val (v_extract rfl rfl) ?_
 refine s_val (v_assign (v := .pointer _) rfl) ?_
 refine s_val (v_assign (v := .bool _) rfl) ?_
 refine s_nil ?_
 refine c_seq ?_
 refine r_seq (by kernel_rfl) ?_
 refine s_val (v_move (v := .bool _) rfl) ?_
 refine s_val (v_not rfl) ?_
 refine s_nil ?_
 refine c_condFh rfl rfl (congrArg not rfl) ?_
 refine c_skip ?_
 refine n_then ?_
 refine r_seq (by kernel_rfl) ?_
 refine s_val (v_move (v := .pointer _) rfl) ?_
 refine s_callF (by kernel_rfl) (fun w hw => bk.house w b13 B13 _ hg13 (bk.mono hr13 hw.at) (lies_of hw (fun _ hq => (List.mem_append_left _ hq)))) (fun F19 v19 E19 hF19 hK19 hR19 => ?_)
 obtain ⟨h19, rfl, hc19, ho19⟩ := hR19
 have hp19 := ho19.known hK19
 have hlc19 := ho19.2.1
 have hl2419 : h19.pl ≤ 24 := by have := (bgood_inv hg13).1.len; have := hp19.1; omega
 refine s_alloc (z := .agg zeroH.cells) (by kernel_rfl) (fun b5 => ?_)
 refine s_storeA (m := 42) (by kernel_rfl) rfl rfl .here (H.size _) (H.size _) (H.all1 _) ?_
 refine s_nil ?_
 refine r_seq (by kernel_rfl) ?_
 refine s_val (v_move (v := .pointer _) rfl) ?_
 refine s_val (v_build (vs := [(0, .int .i64 _)]) (cs := closeA.cells) rfl (by kernel_rfl)) ?_
 refine s_weak (fun w1 hw => hw.perm List.perm_middle.symm) ?_
 refine s_do bk hg13 (bk.mono hr13 hF19) rfl rfl (fun F22 v22 E22 B22 hF22 hi22 hr22 => ?_)
 obtain ⟨a22, c22, rfl, hl22, ho22⟩ := hi22
 refine s_alloc (z := .agg (repC 0 0 (.slice none 0 0))) (by kernel_rfl) (fun b6 => ?_)
 refine s_storeA (m := 3) (by kernel_rfl) rfl rfl .here rfl rfl rep_all ?_
 refine s_nil ?_
 refine c_seq ?_
 have hg22 := hg13.act closeA
 refine r_seq (by kernel_rfl) ?_
 refine s_val (v_field (fo := 0) (by kernel_rfl) rfl) ?_
 refine s_val (v_load1 (v := .int .i64 _) (by kernel_rfl) rfl .here rfl) ?_
 refine s_val (v_neq (k := .i64) rfl rfl) ?_
 refine s_nil ?_
 refine c_condN rfl rfl (fun h25 => ?_) (fun h25 => ?_)
 · have hrf := refused_same hg13 (of_decide_eq_false h25)
   refine f_seq (T := (row 26 (Eqv (.pointer (some ⟨b13, 0, none⟩))) (row 27 ((HouseR (doM (playM newB (xs.take 80)) closeA).1)) (row 28 (Eqv (.agg h19.cells)) (row 29 (Eqv (.bool true)) (row 2 (Eqv (.bool true)) (fun _ => Any))))))) (by kernel_rfl) (by kernel_rfl) (by kernel_rfl) (row_mono (eqv_mono _) (row_mono (houseR_mono _) (row_mono (eqv_mono _) (row_mono (eqv_mono _) (row_mono (eqv_mono _) (fun _ => any_mono)))))) ⟨?_, ?_, ?_, ?_, ?_, trivial⟩ ?_
   · refine ob_free (fun g w hw hl => ?_)
     have e3 : g 3 = .pointer (some ⟨b13, 0, none⟩) := (hl 3 (of_decide_eq_true (by kernel_rfl))).2 (of_decide_eq_true (by kernel_rfl))
     exact x_val (v_move (v := .pointer (some ⟨b13, 0, none⟩)) e3) hw rfl
   · refine ob_free (fun g w hw hl => ?_)
     have e26 : g 26 = .pointer (some ⟨b13, 0, none⟩) := (hl 26 (of_decide_eq_true (by kernel_rfl))).1 (of_decide_eq_true (by kernel_rfl))
     exact x_callF (vs := [.pointer (some ⟨b13, 0, none⟩)]) (by kernel_rfl) (by show [g 26] = _; rw [e26]) ((bk.house w b13 B22 _ hg22 (bk.mono hr22 hw.at) (lies_of hw (fun _ hq => (List.mem_cons_of_mem _ (List.mem_append_right _ (List.mem_append_left _ hq)))))).toF (fun F v E hk hl => houseR_of hk hl)) (fun w' v hb hr => houseR_mono _ _ _ _ (fresh_at _ _) hr)
   · refine ob_free (fun g w hw hl => ?_)
     have e5 : g 5 = .pointer (some ⟨b5, 0, none⟩) := (hl 5 (of_decide_eq_true (by kernel_rfl))).2 (of_decide_eq_true (by kernel_rfl))
     exact x_val (v_loadA (m := 42) (by kernel_rfl) e5 (.there (.app (.app .here))) (H.size _)) hw rfl
   · refine ob_free (fun g w hw hl => ?_)
     obtain ⟨h27, e27, c27, p27, l27⟩ := (show (HouseR (doM (playM newB (xs.take 80)) closeA).1) (At w) (g 27) from (hl 27 (of_decide_eq_true (by kernel_rfl))).1 (of_decide_eq_true (by kernel_rfl)))
     have e28 : g 28 = .agg h19.cells := (hl 28 (of_decide_eq_true (by kernel_rfl))).1 (of_decide_eq_true (by kernel_rfl))
     exact x_call (v := .bool true) (vs := [.agg h27.cells, .agg h19.cells]) (by kernel_rfl) (by show [g 27, g 28] = _; rw [e27, e28]) (by have hq := p27; rw [hrf.2.1] at hq; have hh := gt_sameHouse h27 (playM newB (xs.take 80)).ps h19 (playM newB (xs.take 80)).ps w hq ((hp19.mono hF22).at hw) (by have := hq.1; have := hp19.1; omega); rw [same_core (c27.trans (hrf.1.trans hc19.symm)) (hq.1.symm.trans hp19.1)] at hh; exact hh) (fun _ => rfl)
   · refine ob_free (fun g w hw hl => ?_)
     have e29 : g 29 = .bool true := (hl 29 (of_decide_eq_true (by kernel_rfl))).1 (of_decide_eq_true (by kernel_rfl))
     exact x_val (v_assign (v := .bool true) e29) hw rfl
   intro g w hw hd he
   have e2 : g 2 = .bool true := hd 2 (of_decide_eq_true (by kernel_rfl))
   obtain ⟨g1, hg1⟩ : ∃ g1, g = (upd g1 2 (.bool true)) := ⟨g, live1 e2⟩
   rw [hg1]
   refine cC_at ?_ hw
   refine c_ret ?_
   refine n_ret ?_
   refine n_done rfl (by decide) (Eq.trans (b := .bool _) rfl (congrArg Value.bool ?_))
   rfl
 have hcl := close_do hg13 (a := closeA) rfl (of_decide_eq_true h25)
 refine c_skip ?_
 refine n_then ?_
 refine r_seq (by kernel_rfl) ?_
 refine s_val (v_assign (v := .int .i64 _) rfl) ?_
 refine s_nil ?_
 refine r_seq (by kernel_rfl) ?_
 refine s_val (v_move (v := .pointer _) rfl) ?_
 refine s_callF (by kernel_rfl) (fun w hw => bk.house w b13 B22 _ hg22 (bk.mono hr22 hw.at) (lies_of hw (fun _ hq => (List.mem_cons_of_mem _ (List.mem_append_right _ (List.mem_append_left _ hq)))))) (fun F31 v31 E31 hF31 hK31 hR31 => ?_)
 obtain ⟨h31, rfl, hc31, ho31⟩ := hR31
 have hp31 := ho31.known hK31
 have hlc31 := ho31.2.1
 have hl2431 : h31.pl ≤ 24 := by have := (bgood_inv hg22).1.len; have := hp31.1; omega
 refine s_alloc (z := .agg zeroH.cells) (by kernel_rfl) (fun b8 => ?_)
 refine s_storeA (m := 42) (by kernel_rfl) rfl rfl .here (H.size _) (H.size _) (H.all1 _) ?_
 refine s_nil ?_
 refine c_seq ?_
 have hp19b := (hp19.mono hF22).mono hF31
 have hpl : h31.pl = h19.pl := by rw [← hp31.1, hcl.2.1, List.length_map, hp19.1]
 refine r_seq (by kernel_rfl) ?_
 refine s_val (v_field (fo := 40) (by kernel_rfl) rfl) ?_
 refine s_val (v_load1 (v := .slice _ _ _) (by kernel_rfl) rfl .here (H.at_pays _)) ?_
 refine s_val (v_lenS (T := 39) (m := 6) (by kernel_rfl) rfl rfl) ?_
 refine s_val (v_move (v := .int .i64 _) rfl) ?_
 refine s_nil ?_
 refine c_block ?_
 refine c_loop (σ := Nat) (fun (k : Nat) f => ∃ g, (k ≤ h31.pl) ∧ f = (upd (upd (upd (upd (upd (upd (upd g 5 (.pointer (some ⟨b5, 0, none⟩))) 6 (.pointer (some ⟨b6, 0, none⟩))) 7 (I (cnt (((playM newB (xs.take 80)).ps).take k)))) 8 (.pointer (some ⟨b8, 0, none⟩))) 33 (.slice h31.pa h31.pl h31.pc)) 34 (I h31.pl)) 35 (I k))) (fun (k : Nat) => Has w F31 ((b8, .cells h31.cells 41) :: (b6, .cells ((repC (doM (playM newB (xs.take 80)) closeA).2.code (doM (playM newB (xs.take 80)) closeA).2.n (.slice a22 (doM (playM newB (xs.take 80)) closeA).2.done.length c22))) 31) :: (E22 ++ (B22 ++ ((b5, .cells h19.cells 41) :: []))))) (fun (k : Nat) => h31.pl - k) 0 ⟨_, Nat.zero_le _, live7 rfl rfl rfl rfl rfl rfl rfl⟩ (fun w hw => hw) ?_
 rintro k _ ⟨g, hkl, rfl⟩
 refine r_seq (by kernel_rfl) ?_
 refine s_val (v_lss (k := .i64) rfl rfl) ?_
 refine s_nil ?_
 refine c_seq ?_
 refine c_condR rfl rfl (fun h36 => ?_) (fun h36 => ?_)
 · have hkk : k = h31.pl := by have := of_decide_eq_false h36; omega
   refine c_exit ?_
   refine n_exit ?_
   refine n_exit ?_
   refine n_bhere ?_
   refine n_then ?_
   refine r_seq (by kernel_rfl) ?_
   refine s_val (v_move (v := .int .i64 _) rfl) ?_
   refine s_val (v_field (fo := 1) (by kernel_rfl) rfl) ?_
   refine s_val (v_load1 (v := .int .i64 _) (by kernel_rfl) rfl (.there .here) rfl) ?_
   refine s_val (v_eql (k := .i64) rfl rfl) ?_
   refine s_val (v_move (v := .bool _) rfl) ?_
   refine s_want rfl rfl (decide_eq_true (by rw [hcl.2.2.1, hkk, hpl, ← hp19.1, List.take_length])) ?_
   refine s_val (v_field (fo := 0) (by kernel_rfl) rfl) ?_
   refine s_want rfl rfl (decide_eq_true (by rw [hcl.2.2.1, hkk, hpl, ← hp19.1, List.take_length])) ?_
   refine s_val (v_loadN (m := 8) (cs' := accA _ _) (by kernel_rfl) rfl .here (accA_size _ _) (H.ex_acc _)) ?_
   refine s_want rfl rfl (decide_eq_true (by rw [hcl.2.2.1, hkk, hpl, ← hp19.1, List.take_length])) ?_
   refine s_val (v_field (fo := 0) (by kernel_rfl) rfl) ?_
   refine s_want rfl rfl (decide_eq_true (by rw [hcl.2.2.1, hkk, hpl, ← hp19.1, List.take_length])) ?_
   refine s_val (v_loadN (m := 8) (cs' := accA _ _) (by kernel_rfl) rfl (.there (.there (.app (.app .here)))) (accA_size _ _) (H.ex_acc _)) ?_
   refine s_want rfl rfl (decide_eq_true (by rw [hcl.2.2.1, hkk, hpl, ← hp19.1, List.take_length])) ?_
   refine s_val (v_eqFlat (n := 8) _ _ (by kernel_rfl) rfl rfl (accA_list _ _) (accA_list _ _) rfl rfl) ?_
   refine s_val (v_pickT (v := .bool _) rfl (decide_eq_true (by rw [hcl.2.2.1, hkk, hpl, ← hp19.1, List.take_length])) rfl) ?_
   refine s_val (v_move (v := .bool _) rfl) ?_
   refine s_want rfl rfl (decide_eq_true (core_has (hc31.trans (hcl.1.trans hc19.symm))).1) ?_
   refine s_val (v_field (fo := 8) (by kernel_rfl) rfl) ?_
   refine s_want rfl rfl (decide_eq_true (core_has (hc31.trans (hcl.1.trans hc19.symm))).1) ?_
   refine s_val (v_loadN (m := 16) (cs' := matA _) (by kernel_rfl) rfl .here (matA_size _) (H.ex_sent _)) ?_
   refine s_want rfl rfl (decide_eq_true (core_has (hc31.trans (hcl.1.trans hc19.symm))).1) ?_
   refine s_val (v_field (fo := 8) (by kernel_rfl) rfl) ?_
   refine s_want rfl rfl (decide_eq_true (core_has (hc31.trans (hcl.1.trans hc19.symm))).1) ?_
   refine s_val (v_loadN (m := 16) (cs' := matA _) (by kernel_rfl) rfl (.there (.there (.app (.app .here)))) (matA_size _) (H.ex_sent _)) ?_
   refine s_want rfl rfl (decide_eq_true (core_has (hc31.trans (hcl.1.trans hc19.symm))).1) ?_
   refine s_val (v_eqFlat (n := 16) _ _ (by kernel_rfl) rfl rfl (matA_list _) (matA_list _) rfl rfl) ?_
   refine s_val (v_pickT (v := .bool _) rfl (decide_eq_true (core_has (hc31.trans (hcl.1.trans hc19.symm))).1) rfl) ?_
   refine s_val (v_move (v := .bool _) rfl) ?_
   refine s_want rfl rfl (decide_eq_true (core_has (hc31.trans (hcl.1.trans hc19.symm))).2) ?_
   refine s_val (v_field (fo := 2) (by kernel_rfl) rfl) ?_
   refine s_want rfl rfl (decide_eq_true (core_has (hc31.trans (hcl.1.trans hc19.symm))).2) ?_
   refine s_val (v_load1 (v := .slice _ _ _) (by kernel_rfl) rfl (.there .here) rfl) ?_
   refine s_want rfl rfl (decide_eq_true (core_has (hc31.trans (hcl.1.trans hc19.symm))).2) ?_
   refine s_val (v_lenS (T := 29) (m := 1) (by kernel_rfl) rfl rfl) ?_
   refine s_want rfl rfl (decide_eq_true (core_has (hc31.trans (hcl.1.trans hc19.symm))).2) ?_
   refine s_val (v_eql (k := .i64) rfl rfl) ?_
   refine s_val (v_pickT (v := .bool _) rfl (decide_eq_true (core_has (hc31.trans (hcl.1.trans hc19.symm))).2) rfl) ?_
   refine s_val (v_assign (v := .bool _) rfl) ?_
   refine s_nil ?_
   refine c_ret ?_
   refine n_done rfl (by decide) (Eq.trans (b := .bool _) rfl (congrArg Value.bool ?_))
   exact decide_eq_true (by rw [hcl.2.2.2]; rfl)
 have hk0 := of_decide_eq_true h36
 obtain ⟨p, hpk, hd, ht⟩ := hp31.get (k := k) (by omega)
 obtain ⟨bp, op, hpa, hc⟩ := hp31.some (k := k) (by omega)
 obtain ⟨p0, hp0, _, _⟩ := hp19b.get (k := k) (by omega)
 obtain ⟨bp0, op0, hpa0, hc0⟩ := hp19b.some (k := k) (by omega)
 have hpg : p = goneP p0 := gone_at hp0 (by rw [← hcl.2.1]; exact hpk)
 have hcn := List.countP_le_length (p := fun p : PayS => decide (p.sta = 1)) (l := ((playM newB (xs.take 80)).ps).take k)
 have hcn2 : cnt (((playM newB (xs.take 80)).ps).take k) ≤ 24 := Nat.le_trans hcn (by rw [List.length_take]; have := hp19.1; omega)
 refine c_skip ?_
 refine n_then ?_
 refine c_seq ?_
 refine c_block ?_
 refine r_seq (by kernel_rfl) ?_
 refine s_val (v_move (v := .int .i64 _) rfl) ?_
 refine s_val (v_idxS (size := 6) (k := .i64) (by kernel_rfl) (congrArg (fun a => Value.slice a h31.pl h31.pc) hpa) rfl ⟨by omega, by omega⟩) ?_
 refine s_val (v_loadNo (cs := p.cells) (m := 6) (by kernel_rfl) rfl rfl (hc k p hpk)) ?_
 refine s_alloc (z := zeroOf Try.prog 50) (by kernel_rfl) (fun b10 => ?_)
 refine s_val (v_assign (v := .int .i64 _) rfl) ?_
 refine s_storeA (m := 6) (by kernel_rfl) rfl rfl .here (by kernel_rfl) rfl (PayS.all1 _) ?_
 refine s_nil ?_
 refine c_seq ?_
 refine r_seq (by kernel_rfl) ?_
 refine s_val (v_field (fo := 4) (by kernel_rfl) rfl) ?_
 refine s_val (v_load1 (v := .int .i64 _) (by kernel_rfl) rfl .here rfl) ?_
 refine s_val (v_eql (k := .i64) rfl rfl) ?_
 refine s_nil ?_
 refine c_condFh rfl rfl (decide_eq_false (by rw [hpg]; exact (gone_sta p0).1)) ?_
 refine c_skip ?_
 refine n_then ?_
 refine d_seq (by kernel_rfl) (by kernel_rfl) (fun w hw => hw.drew) (by kernel_rfl) ?_
 refine q_val (v_field (fo := 4) (by kernel_rfl) rfl) ?_
 refine q_val (v_load1 (v := .int .i64 _) (by kernel_rfl) rfl .here rfl) ?_
 refine q_val (v_field (fo := 40) (by kernel_rfl) rfl) ?_
 refine q_val (v_load1 (v := .slice _ _ _) (by kernel_rfl) rfl (.there (.there (.there (.app (.app .here))))) (H.at_pays _)) ?_
 refine q_val (v_move (v := .int .i64 _) rfl) ?_
 refine q_val (v_idxS (size := 6) (k := .i64) (by kernel_rfl) (congrArg (fun a => Value.slice a h19.pl h19.pc) hpa0) rfl ⟨by omega, by omega⟩) ?_
 refine q_val (v_field (fo := 4) (by kernel_rfl) rfl) ?_
 refine q_val (v_load1o (by kernel_rfl) rfl (hc0 _ p0 hp0 4 _ rfl)) ?_
 refine q_val (v_neq (k := .i64) rfl rfl) ?_
 refine q_nil ?_
 refine c_condNR rfl rfl (fun h51 => ?_) (fun h51 => ?_)
 · refine c_skip ?_
   refine n_bnormal ?_
   refine n_then ?_
   refine r_list (by kernel_rfl) ?_
   refine s_val (v_add rfl rfl (by omega)) ?_
   refine s_val (v_move (v := .int .i64 _) rfl) ?_
   refine s_end ?_
   refine n_round (k + 1) ⟨_, (by omega), live7 rfl rfl (congrArg (fun t : Nat => Value.int .i64 (t : Int)) (close_no hp0 (by rw [← hpg]; exact of_decide_eq_true h51))) rfl rfl rfl rfl⟩ (fun _ hw => hw.tail) (by omega)
 refine r_list (by kernel_rfl) ?_
 refine s_val (v_move (v := .int .i64 _) rfl) ?_
 refine s_val (v_add rfl rfl (by omega)) ?_
 refine s_val (v_assign (v := .int .i64 _) rfl) ?_
 refine s_end ?_
 refine n_bnormal ?_
 refine n_then ?_
 refine r_list (by kernel_rfl) ?_
 refine s_val (v_add rfl rfl (by omega)) ?_
 refine s_val (v_move (v := .int .i64 _) rfl) ?_
 refine s_end ?_
 refine n_round (k + 1) ⟨_, (by omega), live7 rfl rfl (congrArg (Value.int .i64) (close_yes hp0 (by rw [← hpg]; exact of_decide_eq_false h51))) rfl rfl rfl rfl⟩ (fun _ hw => hw.tail) (by omega)
end Go.Proofs.Ytmkboljfbmlebab
