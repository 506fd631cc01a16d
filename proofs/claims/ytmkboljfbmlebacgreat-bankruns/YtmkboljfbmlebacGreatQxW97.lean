/- The law BankRuns. Conditions: Run and Replay keep their contracts; the acts take no more bytes than memory has. -/
import Derived.Test.YtmkboljfbmlebacGreatQ15
namespace Go.Proofs.YtmkboljfbmlebacGreat
open Go.RowKit
set_option linter.unusedSimpArgs false
set_option linter.unusedVariables false
set_option maxRecDepth 100000
attribute [local irreducible] cC sC nC rC qw
set_option maxHeartbeats 4000000 in
theorem law_BankRuns (rn : ∀ (w : World) (a : Option Addr) (c : Nat) (l : List ActS), ActsAt (At w) a l → l.length ≤ 9223372036854775807 → GivesF Tryz.prog 13 [.slice a l.length c] w (RunF2 l)) (rp : ∀ (w : World) (a : Option Addr) (c : Nat) (l : List ActS), ActsAt (At w) a l → l.length ≤ 9223372036854775807 → GivesF Tryz.prog 14 [.slice a l.length c] w (ReplayF l)) (a0 : Option Addr) (c0 : Nat) (xs : List ActS) (w : World) (hx : ActsAt (At w) a0 xs) (hlx : xs.length ≤ 9223372036854775807) (hbx : xs.length * 40 ≤ 140737488355328) : Gives Tryz.prog 4 [.slice a0 xs.length c0] w (.bool true) := by
 refine gives_of Tryz.func4 rfl Tryz.ntmps4 (by simp) (r_seq (by kernel_rfl) (s_val (v_asB rfl) (s_nil (r_seq (by kernel_rfl) (s_val (v_move (v := .slice _ _ _) rfl) (s_copyActs (e := 34) (by_ := 40) (zs := xs) (by kernel_rfl) rfl rfl rfl rfl rfl hx (by omega) (fun v11 E11 hE11 => ?_)))))))
 obtain ⟨a11, c11, rfl⟩ := hE11.shape
 refine s_callG (by kernel_rfl) (runF2_mono _) (fun w hw => rn w a11 c11 xs (list_acts hE11 (at_known hw (fun _ hq => (List.mem_append_left _ hq)))) hlx) (fun F12 v12 hF12 hR12 => ?_)
 obtain ⟨a12, n12, c12, e12, rfl, hy12, hn12⟩ := hR12
 refine s_val (v_move (v := .tuple _) rfl) (s_val (v_extract rfl rfl) (s_val (v_extract rfl rfl) (s_val (v_assign (v := .slice _ _ _) rfl) (s_val (v_asI rfl) (s_nil (r_seq (by kernel_rfl) (s_val (v_build (vs := [(0, .int .i64 _)]) (cs := aBad.cells) rfl (by kernel_rfl)) (s_build1 (v := .agg _) (e := 34) (m := 5) (by_ := 40) (by kernel_rfl) rfl rfl rfl (fill_one rfl) (fun b17 => ?_)))))))))
 refine s_callG (by kernel_rfl) (runF2_mono _) (fun w hw => rn w (some ⟨b17, 0, none⟩) 1 [aBad] (one_act hw .here) (by decide)) (fun F18 v18 hF18 hR18 => ?_)
 obtain ⟨a18, n18, c18, e18, rfl, hy18, hn18⟩ := hR18
 refine s_val (v_move (v := .tuple _) rfl) (s_val (v_extract rfl rfl) (s_val (v_extract rfl rfl) (s_val (v_assign (v := .slice _ _ _) rfl) (s_val (v_asI rfl) (s_nil (c_seq (r_seq (by kernel_rfl) (s_val (v_move (v := .slice _ _ _) rfl) (s_val (v_lenS (T := 22) (m := 5) (by kernel_rfl) rfl rfl) (s_val (v_gtr (k := .i64) rfl rfl) (s_nil (c_cond rfl rfl (fun h23 => ?_) (fun h23 => ?_)))))))))))))
 · have hlong : 200 < xs.length := by have := of_decide_eq_true h23; omega
   refine r_seq (by kernel_rfl) (s_val (v_mvI rfl) (s_val (v_eql (k := .i64) rfl rfl) (s_val (v_mvB rfl) (s_want rfl rfl (decide_eq_true (hn12 hlong).2) (s_val (v_move (v := .slice _ _ _) rfl) (s_want rfl rfl (decide_eq_true (hn12 hlong).2) (s_val (v_lenS (T := 50) (m := 3) (by kernel_rfl) rfl rfl) (s_want rfl rfl (decide_eq_true (hn12 hlong).2) (s_val (v_eql (k := .i64) rfl rfl) (s_val (v_pickT (v := .bool _) rfl (decide_eq_true (hn12 hlong).2) rfl) (s_val (v_mvB rfl) (s_want rfl rfl (decide_eq_true (by rw [(hn12 hlong).1]; rfl)) (s_val (v_move (v := .slice _ _ _) rfl) (s_want rfl rfl (decide_eq_true (by rw [(hn12 hlong).1]; rfl)) (s_val (v_lenS (T := 50) (m := 3) (by kernel_rfl) rfl rfl) (s_want rfl rfl (decide_eq_true (by rw [(hn12 hlong).1]; rfl)) (s_val (v_eql (k := .i64) rfl rfl) (s_val (v_pickT (v := .bool _) rfl (decide_eq_true (by rw [(hn12 hlong).1]; rfl)) rfl) (s_val (v_asB rfl) ?_)))))))))))))))))))
   refine s_nil (c_ret (n_ret (n_dnB rfl (by decide) rfl ?_)))
   exact decide_eq_true (by rw [(hy18 (by decide)).1]; rfl)
 have hshort : xs.length ≤ 200 := by have := of_decide_eq_false h23; omega
 obtain ⟨rfl, rfl, hra12⟩ := hy12 hshort
 refine c_skip (n_then (r_seq (by kernel_rfl) (s_callE (by kernel_rfl) (fun w hw => gr_NewBank w) (fun v36 E36 hR36 => ?_))))
 obtain ⟨b36, rfl, rfl⟩ := hR36
 refine s_val (v_assign (v := .pointer _) rfl) (s_nil (c_seq (r_seq (by kernel_rfl) (s_val (v_mvI rfl) (s_val (v_neq (k := .i64) rfl rfl) (s_val (v_mvB rfl) (s_want rfl rfl (congrArg not (decide_eq_true rfl)) (s_val (v_move (v := .slice _ _ _) rfl) (s_want rfl rfl (congrArg not (decide_eq_true rfl)) (s_val (v_lenS (T := 50) (m := 3) (by kernel_rfl) rfl rfl) (s_want rfl rfl (congrArg not (decide_eq_true rfl)) (s_val (v_move (v := .slice _ _ _) rfl) (s_want rfl rfl (congrArg not (decide_eq_true rfl)) (s_val (v_lenS (T := 22) (m := 5) (by kernel_rfl) rfl rfl) (s_want rfl rfl (congrArg not (decide_eq_true rfl)) (s_val (v_neq (k := .i64) rfl rfl) (s_val (v_pickF (v := .bool _) rfl (congrArg not (decide_eq_true rfl)) rfl) (s_val (v_mvB rfl) (s_want rfl rfl (congrArg not (decide_eq_true rfl)) ?_)))))))))))))))))))
 refine s_val (v_move (v := .slice _ _ _) rfl) (s_want rfl rfl (congrArg not (decide_eq_true rfl)) (s_val (v_lenS (T := 50) (m := 3) (by kernel_rfl) rfl rfl) (s_want rfl rfl (congrArg not (decide_eq_true rfl)) (s_val (v_neq (k := .i64) rfl rfl) (s_val (v_pickF (v := .bool _) rfl (congrArg not (decide_eq_true rfl)) rfl) (s_nil (c_condFh rfl rfl (congrArg not (decide_eq_true (by rw [(hy18 (by decide)).1]; rfl))) (c_skip (n_then (c_seq (r_seq (by kernel_rfl) (s_val (v_asI rfl) (s_nil (c_block (c_loop (σ := PlB) (fun (t : PlB) f => ∃ g, (t.i ≤ xs.length ∧ More (At w) t.F ∧ More F12 t.F ∧ BGood t.s ∧ t.s = playM newB (xs.take t.i) ∧ RefRep 46 t.F b36 t.R t.s) ∧ f = (upd (upd (upd (upd g 0 (.slice a0 xs.length c0)) 3 (.slice a12 xs.length c12)) 7 (.pointer (some ⟨b36, 0, none⟩))) 8 (I t.i))) (fun (t : PlB) => Has w t.F (t.R ++ ((b17, .cells aBad.cells 34) :: (E11 ++ [])))) (fun (t : PlB) => xs.length - t.i) ⟨0, F18, newB, [], [(b36, .cells (bankC newM [] false (-1) 0) 46 (0, 0))]⟩ ⟨_, ⟨Nat.zero_le _, fun a v h => hF18 a v (hF12 a v h), hF18, bgood_new, rfl, ref_new 46 b36 _⟩, live4 rfl rfl rfl rfl⟩ (fun w hw => hw) ?_)))))))))))))))
 rintro t _ ⟨g, ⟨hil, hmo, hm8, hgt, hst, hrrt⟩, rfl⟩
 refine c_seq (r_seq (by kernel_rfl) (s_val (v_mvI rfl) (s_val (v_move (v := .slice _ _ _) rfl) (s_val (v_lenS (T := 22) (m := 5) (by kernel_rfl) rfl rfl) (s_val (v_lsI rfl rfl) (s_nil (c_condR rfl rfl (fun h54 => ?_) (fun h54 => ?_))))))))
 · refine c_exit (n_exit (n_exit (n_bhere (n_then (r_seq (by kernel_rfl) (s_val (v_move (v := .slice _ _ _) rfl) (s_copyActs (e := 34) (by_ := 40) (zs := xs) (by kernel_rfl) rfl rfl rfl rfl rfl (hx.mono hmo) (by omega) (fun v70 E70 hE70 => ?_))))))))
   obtain ⟨a70, c70, rfl⟩ := hE70.shape
   refine s_callG (by kernel_rfl) (replayF_mono _) (fun w hw => rp w a70 c70 xs (list_acts hE70 (at_known hw (fun _ hq => (List.mem_append_left _ hq)))) hlx) (fun F71 v71 hF71 hR71 => ?_)
   obtain ⟨h71, rfl, hc71, hlc71, hl2471, hp71⟩ := hR71
   replace hp71 := hp71.mono (more_young _ _)
   refine s_val (v_move (v := .slice _ _ _) rfl) (s_callG (by kernel_rfl) (replayF_mono _) (fun w hw => gr_ReplayActs a0 c0 xs w ((hx.mono (fun a v h => hF71 a v (hmo a v h))).at hw) hlx) (fun F73 v73 hF73 hR73 => ?_))
   obtain ⟨h73, rfl, hc73, hlc73, hl2473, hp73⟩ := hR73
   replace hp73 := hp73.mono (more_young _ _)
   refine s_call (by kernel_rfl) (fun w hw => gr_SameHouse h71 (replayM xs).2 h73 (replayM xs).2 w ((hp71.mono hF73).at hw) (hp73.at hw) (by omega)) (s_val (v_asB rfl) (s_nil (c_ret (n_dnB rfl (by decide) rfl ?_))))
   exact same_core (hc71.trans hc73.symm) (hp71.1.symm.trans hp73.1)
 have hi0 := of_decide_eq_true h54
 obtain ⟨bx, ox, x, hax, hxk, hxc⟩ := (hx.mono hmo).get (j := t.i) (by omega)
 obtain ⟨by1, oy1, r1, d1, e1, hq1, hr1, hi1, hf1⟩ := (hra12.mono (fun a v h => hm8 a v (more_young _ _ a v h))).get (j := t.i) (by rw [reps_len]; omega)
 obtain rfl : r1 = (doM t.s x).2 := by
   rw [reps_at xs newB t.i x hxk, ← hst] at hr1
   simpa using hr1.symm
 refine c_skip (n_then (c_seq (c_block ?_)))
 have hdl : (doM t.s x).2.done.length ≤ 24 := reps_done (l := [x]) (j := 0) hgt rfl
 refine d_gen (ρ := PD) (Fo := fun r => r.F) (Lo := fun _ r => r.R ++ ((b17, .cells aBad.cells 34) :: (E11 ++ []))) (G := pdG (fun _ _ _ => True) 46 t.F b36 t.s (doM t.s x).1 (doM t.s x).2.done 99 9 99) (le := PD.Le) (Ψ := (fun (d : Nat) (v : Value) (r : PD) => if d = 57 then (v = .slice a12 xs.length c12) else if d = 58 then (v = I (t.i : Nat)) else if d = 59 then (v = .pointer (some ⟨by1, oy1 + (t.i : Int).toNat * 3, none⟩)) else if d = 60 then (v = .agg (repC (doM t.s x).2.code (doM t.s x).2.n (.slice d1 (doM t.s x).2.done.length e1))) else if d = 61 then (v = .pointer (some ⟨b36, 0, none⟩)) else if d = 62 then (v = .slice a0 xs.length c0) else if d = 63 then (v = I (t.i : Nat)) else if d = 64 then (v = .pointer (some ⟨bx, ox + (t.i : Int).toNat * 5, none⟩)) else if d = 65 then (v = .agg x.cells) else if d = 66 then (isR r.q2 (doM t.s x).2.code (doM t.s x).2.n (doM t.s x).2.done.length (v)) else if d = 67 then (v = .bool true) else if d = 68 then (v = .bool false) else True)) (by kernel_rfl) (by kernel_rfl) (by kernel_rfl) ⟨t.F, [], t.R, none, none, none⟩ rfl rfl ⟨fun _ _ h => h, fun _ => rfl, fun _ => rfl, fun _ => rfl, trivial, hrrt, (fun _ _ h => (by cases h)), (fun _ _ h => (by cases h)), (fun _ h => (by cases h))⟩ ?_ ?_ ?_
 · intro d v r r1 hle
   exact (ite_stab (fun _ h => h) (fun _ => (ite_stab (fun _ h => h) (fun _ => (ite_stab (fun _ h => h) (fun _ => (ite_stab (fun _ h => h) (fun _ => (ite_stab (fun _ h => h) (fun _ => (ite_stab (fun _ h => h) (fun _ => (ite_stab (fun _ h => h) (fun _ => (ite_stab (fun _ h => h) (fun _ => (ite_stab (fun _ h => h) (fun _ => (ite_stab (fun _ h => h.le hle.q2) (fun _ => (ite_stab (fun _ h => h) (fun _ => (ite_stab (fun _ h => h) (fun _ h => h))))))))))))))))))))))))
 · intro i o ho
   match i, ho with
   | 0, ho =>
     obtain rfl := Option.some.inj ho
     intro b1 r g hbi hed hG hl
     have e3 : g 3 = .slice a12 xs.length c12 := (hl 3 (dK (by kernel_rfl))).2 (dK (by kernel_rfl))
     refine s_val (v_move (v := .slice a12 xs.length c12) e3) ?_
     exact s_fin (fun w1 hw => ⟨_, r, rfl, .refl r, ⟨hG.more, hG.n1, hG.n2, hG.n3, hG.rb, hG.rr, hG.i1, hG.i2, hG.i3⟩, hw, fun d hd => (by cases hd; exact rfl)⟩)
   | 1, ho =>
     obtain rfl := Option.some.inj ho
     intro b1 r g hbi hed hG hl
     have e8 : g 8 = I (t.i : Nat) := (hl 8 (dK (by kernel_rfl))).2 (dK (by kernel_rfl))
     refine s_val (v_move (v := I (t.i : Nat)) e8) ?_
     exact s_fin (fun w1 hw => ⟨_, r, rfl, .refl r, ⟨hG.more, hG.n1, hG.n2, hG.n3, hG.rb, hG.rr, hG.i1, hG.i2, hG.i3⟩, hw, fun d hd => (by cases hd; exact rfl)⟩)
   | 2, ho =>
     obtain rfl := Option.some.inj ho
     intro b1 r g hbi hed hG hl
     have e57 : g 57 = .slice a12 xs.length c12 := (hl 57 (dK (by kernel_rfl))).1 (dK (by kernel_rfl))
     have e58 : g 58 = I (t.i : Nat) := (hl 58 (dK (by kernel_rfl))).1 (dK (by kernel_rfl))
     refine s_val (v_idxS (size := 3) (k := .i64) (by kernel_rfl) (e57.trans (congrArg (fun a => Value.slice a xs.length c12) hq1)) e58 ⟨by omega, by omega⟩) ?_
     exact s_fin (fun w1 hw => ⟨_, r, rfl, .refl r, ⟨hG.more, hG.n1, hG.n2, hG.n3, hG.rb, hG.rr, hG.i1, hG.i2, hG.i3⟩, hw, fun d hd => (by cases hd; exact rfl)⟩)
   | 3, ho =>
     obtain rfl := Option.some.inj ho
     intro b1 r g hbi hed hG hl
     have e59 : g 59 = .pointer (some ⟨by1, oy1 + (t.i : Int).toNat * 3, none⟩) := (hl 59 (dK (by kernel_rfl))).1 (dK (by kernel_rfl))
     refine s_val (v_loadNo (cs := repC (doM t.s x).2.code (doM t.s x).2.n (.slice d1 (doM t.s x).2.done.length e1)) (m := 3) (by kernel_rfl) e59 rfl (fun k v hv => hG.more _ _ (hf1 k v hv))) ?_
     exact s_fin (fun w1 hw => ⟨_, r, rfl, .refl r, ⟨hG.more, hG.n1, hG.n2, hG.n3, hG.rb, hG.rr, hG.i1, hG.i2, hG.i3⟩, hw, fun d hd => (by cases hd; exact rfl)⟩)
   | 4, ho =>
     obtain rfl := Option.some.inj ho
     intro b1 r g hbi hed hG hl
     have e7 : g 7 = .pointer (some ⟨b36, 0, none⟩) := (hl 7 (dK (by kernel_rfl))).2 (dK (by kernel_rfl))
     refine s_val (v_move (v := .pointer (some ⟨b36, 0, none⟩)) e7) ?_
     exact s_fin (fun w1 hw => ⟨_, r, rfl, .refl r, ⟨hG.more, hG.n1, hG.n2, hG.n3, hG.rb, hG.rr, hG.i1, hG.i2, hG.i3⟩, hw, fun d hd => (by cases hd; exact rfl)⟩)
   | 5, ho =>
     obtain rfl := Option.some.inj ho
     intro b1 r g hbi hed hG hl
     have e0 : g 0 = .slice a0 xs.length c0 := (hl 0 (dK (by kernel_rfl))).2 (dK (by kernel_rfl))
     refine s_val (v_move (v := .slice a0 xs.length c0) e0) ?_
     exact s_fin (fun w1 hw => ⟨_, r, rfl, .refl r, ⟨hG.more, hG.n1, hG.n2, hG.n3, hG.rb, hG.rr, hG.i1, hG.i2, hG.i3⟩, hw, fun d hd => (by cases hd; exact rfl)⟩)
   | 6, ho =>
     obtain rfl := Option.some.inj ho
     intro b1 r g hbi hed hG hl
     have e8 : g 8 = I (t.i : Nat) := (hl 8 (dK (by kernel_rfl))).2 (dK (by kernel_rfl))
     refine s_val (v_move (v := I (t.i : Nat)) e8) ?_
     exact s_fin (fun w1 hw => ⟨_, r, rfl, .refl r, ⟨hG.more, hG.n1, hG.n2, hG.n3, hG.rb, hG.rr, hG.i1, hG.i2, hG.i3⟩, hw, fun d hd => (by cases hd; exact rfl)⟩)
   | 7, ho =>
     obtain rfl := Option.some.inj ho
     intro b1 r g hbi hed hG hl
     have e62 : g 62 = .slice a0 xs.length c0 := (hl 62 (dK (by kernel_rfl))).1 (dK (by kernel_rfl))
     have e63 : g 63 = I (t.i : Nat) := (hl 63 (dK (by kernel_rfl))).1 (dK (by kernel_rfl))
     refine s_val (v_idxS (size := 5) (k := .i64) (by kernel_rfl) (e62.trans (congrArg (fun a => Value.slice a xs.length c0) hax)) e63 ⟨by omega, by omega⟩) ?_
     exact s_fin (fun w1 hw => ⟨_, r, rfl, .refl r, ⟨hG.more, hG.n1, hG.n2, hG.n3, hG.rb, hG.rr, hG.i1, hG.i2, hG.i3⟩, hw, fun d hd => (by cases hd; exact rfl)⟩)
   | 8, ho =>
     obtain rfl := Option.some.inj ho
     intro b1 r g hbi hed hG hl
     have e64 : g 64 = .pointer (some ⟨bx, ox + (t.i : Int).toNat * 5, none⟩) := (hl 64 (dK (by kernel_rfl))).1 (dK (by kernel_rfl))
     refine s_val (v_loadNo (cs := x.cells) (m := 5) (by kernel_rfl) e64 rfl (fun k v hv => hG.more _ _ (hxc k v hv))) ?_
     exact s_fin (fun w1 hw => ⟨_, r, rfl, .refl r, ⟨hG.more, hG.n1, hG.n2, hG.n3, hG.rb, hG.rr, hG.i1, hG.i2, hG.i3⟩, hw, fun d hd => (by cases hd; exact rfl)⟩)
   | 9, ho =>
     obtain rfl := Option.some.inj ho
     intro b1 r g hbi hed hG hl
     have e61 : g 61 = .pointer (some ⟨b36, 0, none⟩) := (hl 61 (dK (by kernel_rfl))).1 (dK (by kernel_rfl))
     have e65 : g 65 = .agg x.cells := (hl 65 (dK (by kernel_rfl))).1 (dK (by kernel_rfl))
     have h11 := hG.n2 hbi
     have hrr : RefRep 46 r.F b36 r.R t.s := by have := hG.rr; rw [h11] at this; exact this
     refine s_callW (R := _) (by kernel_rfl) (show GivesW _ _ [g 61, g 65] r.F r.R _ from (by rw [e61, e65]; exact ref_do r.F b36 r.R t.s x hgt hrr)) (fun F1 v1 B1 hF1 hR1 => ?_)
     obtain ⟨a1, c1, rfl, hi1, hr1⟩ := hR1
     exact s_fin (fun w1 hw => ⟨_, ⟨F1, r.B, B1, r.q1, some (a1, c1), r.q3⟩, rfl, ⟨hF1, fun _ h => h, (fun _ h => (by rw [h11] at h; cases h)), fun _ h => h⟩, ⟨fun a v h => hF1 a v (hG.more a v h), hG.n1, (fun h => (by cases h)), hG.n3, trivial, hr1, fun a c e => (hG.i1 a c e).mono hF1, (fun a c e => (by cases e; exact hi1)), fun h e => ⟨(hG.i3 h e).1, (hG.i3 h e).2.mono hF1⟩⟩, hw, fun d hd => (by cases hd; exact ⟨a1, c1, rfl, rfl⟩)⟩)
   | 10, ho =>
     obtain rfl := Option.some.inj ho
     intro b1 r g hbi hed hG hl
     have e60 : g 60 = .agg (repC (doM t.s x).2.code (doM t.s x).2.n (.slice d1 (doM t.s x).2.done.length e1)) := (hl 60 (dK (by kernel_rfl))).1 (dK (by kernel_rfl))
     have e66 : isR r.q2 (doM t.s x).2.code (doM t.s x).2.n (doM t.s x).2.done.length (g 66) := (hl 66 (dK (by kernel_rfl))).1 (dK (by kernel_rfl))
     obtain ⟨a66, c66, q66, e66⟩ := e66
     refine s_call (v := .bool true) (by kernel_rfl) (fun w1 hw => ?_) ?_
     · show Gives _ _ [g 60, g 66] w1 _
       rw [e60, e66]
       have e := gr_SameReply (doM t.s x).2.code (doM t.s x).2.n (doM t.s x).2.code (doM t.s x).2.n d1 a66 e1 c66 (doM t.s x).2.done (doM t.s x).2.done w1 ((hi1.mono hG.more).at hw) ((hG.i2 _ _ q66).at hw) (by omega)
       rw [sameRB_self] at e
       exact e
     exact s_fin (fun w1 hw => ⟨_, r, rfl, .refl r, ⟨hG.more, hG.n1, hG.n2, hG.n3, hG.rb, hG.rr, hG.i1, hG.i2, hG.i3⟩, hw, fun d hd => (by cases hd; exact rfl)⟩)
   | 11, ho =>
     obtain rfl := Option.some.inj ho
     intro b1 r g hbi hed hG hl
     have e67 : g 67 = .bool true := (hl 67 (dK (by kernel_rfl))).1 (dK (by kernel_rfl))
     refine s_val (v_not e67) ?_
     exact s_fin (fun w1 hw => ⟨_, r, rfl, .refl r, ⟨hG.more, hG.n1, hG.n2, hG.n3, hG.rb, hG.rr, hG.i1, hG.i2, hG.i3⟩, hw, fun d hd => (by cases hd; exact rfl)⟩)
   | n + 12, ho => cases ho
 intro b7 r7 g hall hG hd he
 have e68 : g 68 = .bool false := hd 68 (dK (by kernel_rfl))
 obtain ⟨_, _, bq2, _⟩ : isR r7.q2 (doM t.s x).2.code (doM t.s x).2.n (doM t.s x).2.done.length (g 66) := hd 66 (dK (by kernel_rfl))
 have hrr7 : RefRep 46 r7.F b36 r7.R (doM t.s x).1 := by have := hG.rr; rw [bq2] at this; exact this
 have hm7 := hG.more
 have e0 : g 0 = .slice a0 xs.length c0 := he 0 (dK (by kernel_rfl))
 have e3 : g 3 = .slice a12 xs.length c12 := he 3 (dK (by kernel_rfl))
 have e7 : g 7 = .pointer (some ⟨b36, 0, none⟩) := he 7 (dK (by kernel_rfl))
 have e8 : g 8 = I (t.i : Nat) := he 8 (dK (by kernel_rfl))
 obtain ⟨g1, hg1⟩ : ∃ g1, g = (upd (upd (upd (upd (upd g1 0 (.slice a0 xs.length c0)) 3 (.slice a12 xs.length c12)) 7 (.pointer (some ⟨b36, 0, none⟩))) 8 (I (t.i : Nat))) 68 (.bool false)) := ⟨g, live5 e0 e3 e7 e8 e68⟩
 rw [hg1]
 refine c_condFh rfl rfl rfl (c_skip (n_bnormal (n_then (r_list (by kernel_rfl) (s_val (v_mvI rfl) (s_val (v_add rfl rfl (by omega)) (s_val (v_asI rfl) (s_end (n_round (s := t) ⟨t.i + 1, r7.F, (doM t.s x).1, [], r7.R⟩ ⟨_, ⟨by dsimp only; omega, fun a v h => hm7 a v (hmo a v h), fun a v h => hm7 a v (hm8 a v h), hgt.act x, by dsimp only; rw [play_step hxk, ← hst], hrr7⟩, live4 rfl rfl rfl rfl⟩ (fun _ hw => hw) (by dsimp only; omega))))))))))
end Go.Proofs.YtmkboljfbmlebacGreat
