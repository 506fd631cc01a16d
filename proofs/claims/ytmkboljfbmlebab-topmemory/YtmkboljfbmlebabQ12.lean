/- What the laws of this place stand on, part 12. Each part names its own conditions in what it states. -/
import Derived.Test.YtmkboljfbmlebabQ11
namespace Go.Proofs.Ytmkboljfbmlebab
open Go.RowKit
set_option linter.unusedSimpArgs false
set_option linter.unusedVariables false
set_option maxRecDepth 100000
attribute [local irreducible] cC sC nC rC qw
set_option maxHeartbeats 2000000 in
theorem g_open (F : Addr → Value → Prop) (h : H) (b : Nat) (ps : List PayS) (tx : List Nat) (dn : Bool) (fl : Int) (na : Nat) (hbt : Byt tx) (hp : PaysIn F h.pa h.pl ps) (hlc : h.pl ≤ h.pc) (hps24 : ps.length ≤ 24) (htx : tx.length ≤ 4000) : GivesW Try.prog 43 [.pointer (some ⟨b, 0, none⟩)] F ([(b, .cells (bankD h (tx) (!dn) (na : Nat) (decide (0 ≤ fl)) (keptOf fl)) 67 (0, 0))]) (DoR 67 b (openM (⟨h.core, ps, tx, dn, fl, na⟩ : BankS))) := by
 refine givesW_of Try.func43 rfl Try.ntmps43 (by simp) (fun w K => ?_)
 refine r_seq (by kernel_rfl) ?_
 refine s_alloc (z := .agg (repC 0 0 (.slice none 0 0))) (by kernel_rfl) (fun b2 => ?_)
 refine s_nil ?_
 refine c_seq ?_
 refine r_seq (by kernel_rfl) ?_
 refine s_val (v_move (v := .pointer _) rfl) ?_
 refine s_val (v_nilCheck rfl) ?_
 refine s_val (v_field (fo := 43) (by kernel_rfl) rfl) ?_
 refine s_val (v_load1 (v := .bool _) (by kernel_rfl) rfl (.there .here) (bankD_up _ _ _ _ _ _)) ?_
 refine s_nil ?_
 refine c_cond rfl rfl (fun h8 => ?_) (fun h8 => ?_)
 · refine r_seq (by kernel_rfl) ?_
   refine s_call (by kernel_rfl) (fun w hw => g_failed _ w) ?_
   refine s_storeA (m := 3) (by kernel_rfl) rfl rfl .here rfl rfl rep_all ?_
   refine s_nil ?_
   refine c_ret ?_
   refine n_ret ?_
   have q1 : dn = false := by cases dn with | false => rfl | true => cases h8
   refine n_doneWD (m := 3) rfl (by decide) rfl (by kernel_rfl) .here rep_size (fun w1 hw => ?_)
   exact ⟨[(b, .cells (bankD h (tx) (!dn) (na : Nat) (decide (0 ≤ fl)) (keptOf fl)) 67 (0, 0))], F, (fun _ _ h => h), has_one (hw.sub (List.Sublist.cons _ (List.Sublist.cons_cons _ (List.Sublist.refl _)))), doR_err (by simp only [openM, q1, Bool.not_false, cond_true]) hp hlc⟩
 refine c_skip ?_
 refine n_then ?_
 refine r_seq (by kernel_rfl) ?_
 refine s_val (v_move (v := .pointer _) rfl) ?_
 refine s_val (v_nilCheck rfl) ?_
 refine s_val (v_field (fo := 42) (by kernel_rfl) rfl) ?_
 refine s_val (v_load1 (v := .string _) (by kernel_rfl) rfl (.there .here) (bankD_text _ _ _ _ _ _)) ?_
 refine s_callG (by kernel_rfl) (readF_mono _) (fun w hw => g_Read tx w hbt (by omega)) (fun F15 v15 hF15 hR15 => ?_)
 obtain ⟨v15b, rfl, hin15⟩ := hR15
 obtain ⟨a15, c15, rfl, hac0⟩ := hin15.at
 have hac := hac0.mono (more_young w F15)
 have hrf := read_factsD tx
 refine s_val (v_move (v := .tuple _) rfl) ?_
 refine s_val (v_extract rfl rfl) ?_
 refine s_val (v_extract rfl rfl) ?_
 refine s_val (v_assign (v := .slice _ _ _) rfl) ?_
 refine s_val (v_assign (v := .int .i64 _) rfl) ?_
 refine s_nil ?_
 refine r_seq (by kernel_rfl) ?_
 refine s_val (v_move (v := .pointer _) rfl) ?_
 refine s_val (v_move (v := .pointer _) rfl) ?_
 refine s_val (v_nilCheck rfl) ?_
 refine s_val (v_field (fo := 42) (by kernel_rfl) rfl) ?_
 refine s_val (v_load1 (v := .string _) (by kernel_rfl) rfl (.there .here) (bankD_text _ _ _ _ _ _)) ?_
 refine s_val (v_move (v := .int .i64 _) rfl) ?_
 refine s_val (v_strHi (by kernel_rfl) rfl rfl ⟨by omega, by omega⟩) ?_
 refine s_val (v_nilCheck rfl) ?_
 refine s_val (v_field (fo := 42) (by kernel_rfl) rfl) ?_
 refine s_store1 (v := .string _) (by kernel_rfl) rfl rfl (.there .here) (bankD_setText _ _ _ _ _ _) rfl ?_
 refine s_nil ?_
 refine r_seq (by kernel_rfl) ?_
 refine s_val (v_move (v := .pointer _) rfl) ?_
 refine s_val (v_move (v := .slice _ _ _) rfl) ?_
 refine s_callG (by kernel_rfl) (replayF_mono _) (fun w hw => g_Replay a15 c15 (readM tx) w (hac.at hw) (by omega)) (fun F29 v29 hF29 hR29 => ?_)
 obtain ⟨hx, rfl, hcx, hlx, _, hpx⟩ := hR29
 refine s_val (v_nilCheck rfl) ?_
 refine s_val (v_field (fo := 0) (by kernel_rfl) rfl) ?_
 refine s_storeP (m := 42) (by kernel_rfl) rfl rfl (.there .here) (by rw [bankD_size]; omega) (H.size _) (bankD_over _ _ _ _ _ _ _) (H.all1 _) ?_
 refine s_nil ?_
 refine r_seq (by kernel_rfl) ?_
 refine s_val (v_move (v := .pointer _) rfl) ?_
 refine s_val (v_nilCheck rfl) ?_
 refine s_val (v_field (fo := 43) (by kernel_rfl) rfl) ?_
 refine s_store1 (v := .bool _) (by kernel_rfl) rfl rfl (.there .here) (bankD_setUp _ _ _ _ _ _) rfl ?_
 refine s_nil ?_
 refine r_seq (by kernel_rfl) ?_
 refine s_val (v_move (v := .slice _ _ _) rfl) ?_
 refine s_val (v_lenS (T := 44) (m := 5) (by kernel_rfl) rfl rfl) ?_
 refine s_val (v_build (vs := [(1, .int .i64 _)]) (cs := repC 0 ((readM tx).length : Int) (.slice none 0 0)) rfl (by kernel_rfl)) ?_
 refine s_storeA (m := 3) (by kernel_rfl) rfl rfl .here rfl rfl rep_all ?_
 refine s_nil ?_
 refine c_ret ?_
 have q1 : dn = true := by cases dn with | true => rfl | false => cases h8
 refine n_doneWD (m := 3) rfl (by decide) rfl (by kernel_rfl) .here rep_size (fun w1 hw => ?_)
 refine ⟨[(b, .cells (bankD hx (bytesOf (readM tx)) true (na : Nat) (decide (0 ≤ fl)) (keptOf fl)) 67 (0, 0))], F29, fun a v h => hF29 a v (hF15 a v h), by have e := hrf.2.2; have h2 := hw.sub (List.Sublist.cons _ (List.Sublist.cons_cons _ (List.Sublist.refl _))); rw [e] at h2; exact has_one h2, ?_⟩
 simp only [openM, q1, Bool.not_true, cond_false]
 exact ⟨_, [], _, rfl, rfl, intsO_nil, hx, rfl, hcx, hpx.mono (more_young _ _), hlx⟩
set_option maxHeartbeats 2000000 in
theorem g_schedule (F : Addr → Value → Prop) (h : H) (b : Nat) (ps : List PayS) (tx : List Nat) (dn : Bool) (fl : Int) (na : Nat) (n : Int) (hp : PaysIn F h.pa h.pl ps) (hlc : h.pl ≤ h.pc) (hps24 : ps.length ≤ 24) (htx : tx.length ≤ 4000) : GivesW Try.prog 44 [.pointer (some ⟨b, 0, none⟩), I n] F ([(b, .cells (bankD h (tx) (!dn) (na : Nat) (decide (0 ≤ fl)) (keptOf fl)) 67 (0, 0))]) (DoR 67 b (schedM (⟨h.core, ps, tx, dn, fl, na⟩ : BankS) n)) := by
 refine givesW_of Try.func44 rfl Try.ntmps44 (by simp) (fun w K => ?_)
 refine r_seq (by kernel_rfl) ?_
 refine s_alloc (z := .agg (repC 0 0 (.slice none 0 0))) (by kernel_rfl) (fun b4 => ?_)
 refine s_nil ?_
 refine c_seq ?_
 refine r_seq (by kernel_rfl) ?_
 refine s_val (v_move (v := .int .i64 _) rfl) ?_
 refine s_call (by kernel_rfl) (fun w hw => g_withinB _ _ _ w) ?_
 refine s_val (v_not rfl) ?_
 refine s_nil ?_
 refine c_condN rfl rfl (fun h7 => ?_) (fun h7 => ?_)
 · refine r_seq (by kernel_rfl) ?_
   refine s_call (by kernel_rfl) (fun w hw => g_failed _ w) ?_
   refine s_storeA (m := 3) (by kernel_rfl) rfl rfl .here rfl rfl rep_all ?_
   refine s_nil ?_
   refine c_ret ?_
   refine n_ret ?_
   refine n_doneWD (m := 3) rfl (by decide) rfl (by kernel_rfl) .here rep_size (fun w1 hw => ?_)
   exact ⟨[(b, .cells (bankD h (tx) (!dn) (na : Nat) (decide (0 ≤ fl)) (keptOf fl)) 67 (0, 0))], F, (fun _ _ h => h), has_one (hw.sub (List.Sublist.cons _ (List.Sublist.cons_cons _ (List.Sublist.refl _)))), doR_err (by simp only [schedM, h7, Bool.not_false, cond_true]) hp hlc⟩
 refine c_skip ?_
 refine n_then ?_
 refine r_seq (by kernel_rfl) ?_
 refine s_val (v_move (v := .pointer _) rfl) ?_
 refine s_val (v_move (v := .pointer _) rfl) ?_
 refine s_val (v_move (v := .int .i64 _) rfl) ?_
 refine s_val (v_nilCheck rfl) ?_
 refine s_val (v_field (fo := 45) (by kernel_rfl) rfl) ?_
 refine s_store1 (v := .bool _) (by kernel_rfl) rfl rfl (.there .here) (bankD_setFails _ _ _ _ _ _) rfl ?_
 refine s_val (v_nilCheck rfl) ?_
 refine s_val (v_field (fo := 46) (by kernel_rfl) rfl) ?_
 refine s_store1 (v := .int .i64 _) (by kernel_rfl) rfl rfl (.there .here) (bankD_setKept _ _ _ _ _ _) rfl ?_
 refine s_nil ?_
 refine r_seq (by kernel_rfl) ?_
 refine s_val (v_build (vs := []) (cs := repC 0 0 (.slice none 0 0)) rfl (by kernel_rfl)) ?_
 refine s_storeA (m := 3) (by kernel_rfl) rfl rfl .here rfl rfl rep_all ?_
 refine s_nil ?_
 refine c_ret ?_
 have hwn := within_iff.1 h7
 refine n_doneWD (m := 3) rfl (by decide) rfl (by kernel_rfl) .here rep_size (fun w1 hw => ?_)
 refine ⟨[(b, .cells (bankD h (tx) (!dn) (na : Nat) (decide (0 ≤ n)) (keptOf n)) 67 (0, 0))], F, (fun _ _ h => h), by rw [decide_eq_true hwn.1, show keptOf n = n from if_pos hwn.1]; exact has_one (hw.sub (List.Sublist.cons _ (List.Sublist.cons_cons _ (List.Sublist.refl _)))), ?_⟩
 simp only [schedM, h7, Bool.not_true, cond_false]
 exact ⟨_, [], _, rfl, rfl, intsO_nil, h, rfl, rfl, hp, hlc⟩
set_option maxHeartbeats 2000000 in
theorem g_execute (F : Addr → Value → Prop) (h : H) (b : Nat) (ps : List PayS) (tx : List Nat) (dn : Bool) (fl : Int) (na : Nat) (a : ActS) (hp : PaysIn F h.pa h.pl ps) (hlc : h.pl ≤ h.pc) (hps24 : ps.length ≤ 24) (htx : tx.length ≤ 4000) : GivesW Try.prog 45 [.pointer (some ⟨b, 0, none⟩), .agg a.cells] F ([(b, .cells (bankD h (tx) (!dn) (na : Nat) (decide (0 ≤ fl)) (keptOf fl)) 67 (0, 0))]) (DoR 67 b (execM (⟨h.core, ps, tx, dn, fl, na⟩ : BankS) a)) := by
 refine givesW_of Try.func45 rfl Try.ntmps45 (by simp) (fun w K => ?_)
 have hfl28 := fText_lenD a
 have hb : h.pl * 48 ≤ 281474976710656 := by have := hp.1; omega
 refine r_seq (by kernel_rfl) ?_
 refine s_box (v := .agg _) rfl (fun b3 => ?_)
 refine s_alloc (z := .agg (repC 0 0 (.slice none 0 0))) (by kernel_rfl) (fun b4 => ?_)
 refine s_nil ?_
 refine d_gen (ρ := DE) (Fo := fun r => r.F) (Lo := deLo 41 31 (nextM h.core ps a).code (nextM h.core ps a).n ((b4, .cells ((repC 0 0 (.slice none 0 0))) 31) :: (b3, .cells a.cells 23) :: (b, .cells (bankD h (tx) (!dn) (na : Nat) (decide (0 ≤ fl)) (keptOf fl)) 67 (0, 0)) :: K)) (G := deG F (fun F1 (E1 : List (Nat × Obj)) (k : H) (y : Option Addr) (m z : Nat) => k.core = (nextM h.core ps a).c ∧ k.pl ≤ k.pc ∧ PaysIn F1 k.pa k.pl (nextM h.core ps a).ps ∧ ListE 3 1 (.slice y m z) (nextM h.core ps a).done.length ((nextM h.core ps a).done.map I) E1)) (le := DE.Le) (Ψ := psiD b h a (nextM h.core ps a).code (nextM h.core ps a).n) (by kernel_rfl) (by kernel_rfl) (by kernel_rfl) ⟨F, [], none, none, none⟩ rfl rfl ⟨fun _ _ h => h, fun _ => rfl, fun _ => rfl, fun _ => ⟨rfl, rfl⟩, (fun _ _ _ _ h => (by cases h)), (fun h => (by cases h)), (fun h => (by cases h))⟩ psiD_stab ?_ ?_
 · intro i o ho
   match i, ho with
   | 0, ho =>
     obtain rfl := Option.some.inj ho
     intro b1 r g hbi hed hG hl
     have e0 : g 0 = .pointer (some ⟨b, 0, none⟩) := (hl 0 (of_decide_eq_true (by kernel_rfl))).2 (of_decide_eq_true (by kernel_rfl))
     refine s_val (v_move (v := .pointer (some ⟨b, 0, none⟩)) e0) ?_
     exact s_fin (fun w1 hw => ⟨_, r, rfl, .refl r, ⟨hG.more, hG.b5, hG.b6, hG.q, hG.has, hG.h11, hG.h12⟩, hw, fun d hd => (by cases hd; exact rfl)⟩)
   | 1, ho =>
     obtain rfl := Option.some.inj ho
     intro b1 r g hbi hed hG hl
     have e10 : g 10 = .pointer (some ⟨b, 0, none⟩) := (hl 10 (of_decide_eq_true (by kernel_rfl))).1 (of_decide_eq_true (by kernel_rfl))
     refine s_val (v_nilCheck e10) ?_
     exact s_fin (fun w1 hw => ⟨_, r, rfl, .refl r, ⟨hG.more, hG.b5, hG.b6, hG.q, hG.has, hG.h11, hG.h12⟩, hw, fun d hd => (by cases hd; exact rfl)⟩)
   | 2, ho =>
     obtain rfl := Option.some.inj ho
     intro b1 r g hbi hed hG hl
     have e11 : g 11 = .pointer (some ⟨b, 0, none⟩) := (hl 11 (of_decide_eq_true (by kernel_rfl))).1 (of_decide_eq_true (by kernel_rfl))
     refine s_val (v_field (fo := 0) (by kernel_rfl) e11) ?_
     exact s_fin (fun w1 hw => ⟨_, r, rfl, .refl r, ⟨hG.more, hG.b5, hG.b6, hG.q, hG.has, hG.h11, hG.h12⟩, hw, fun d hd => (by cases hd; exact rfl)⟩)
   | 3, ho =>
     obtain rfl := Option.some.inj ho
     intro b1 r g hbi hed hG hl
     have e12 : g 12 = .pointer (some ⟨b, 0 + 0, none⟩) := (hl 12 (of_decide_eq_true (by kernel_rfl))).1 (of_decide_eq_true (by kernel_rfl))
     refine s_val (v_loadN (m := 42) (cs' := h.cells) (by kernel_rfl) e12 (.app (.app (.app (.there (.there .here))))) (H.size _) (bankD_house _ _ _ _ _ _)) ?_
     exact s_fin (fun w1 hw => ⟨_, r, rfl, .refl r, ⟨hG.more, hG.b5, hG.b6, hG.q, hG.has, hG.h11, hG.h12⟩, hw, fun d hd => (by cases hd; exact rfl)⟩)
   | 4, ho =>
     obtain rfl := Option.some.inj ho
     intro b1 r g hbi hed hG hl
     have e3 : g 3 = .pointer (some ⟨b3, 0, none⟩) := (hl 3 (of_decide_eq_true (by kernel_rfl))).2 (of_decide_eq_true (by kernel_rfl))
     refine s_val (v_loadA (m := 5) (by kernel_rfl) e3 (.app (.app (.app (.there .here)))) rfl) ?_
     exact s_fin (fun w1 hw => ⟨_, r, rfl, .refl r, ⟨hG.more, hG.b5, hG.b6, hG.q, hG.has, hG.h11, hG.h12⟩, hw, fun d hd => (by cases hd; exact rfl)⟩)
   | 5, ho =>
     obtain rfl := Option.some.inj ho
     intro b1 r g hbi hed hG hl
     have e13 : g 13 = .agg h.cells := (hl 13 (of_decide_eq_true (by kernel_rfl))).1 (of_decide_eq_true (by kernel_rfl))
     have e14 : g 14 = .agg a.cells := (hl 14 (of_decide_eq_true (by kernel_rfl))).1 (of_decide_eq_true (by kernel_rfl))
     have h11f : b1 11 = false := by cases e : b1 11 with | false => rfl | true => (have := (hG.h11 e).2; rw [hbi] at this; cases this)
     have h12f : b1 12 = false := by cases e : b1 12 with | false => rfl | true => (have := (hG.h12 e).2; rw [hbi] at this; cases this)
     have hE0 := (hG.q hbi).2
     refine s_weak (fun w1 hw => (show Has w r.F _ w1 from (by rw [deLo_before hE0 h11f h12f] at hw; exact hw))) ?_
     refine s_callV (by kernel_rfl) (show GivesV _ _ [g 13, g 14] r.F [] (NextV 3 (nextM h.core ps a)) from (by rw [e13, e14]; exact g_Next r.F h ps a (hp.mono hG.more) (by have := hp.1; omega))) (fun F15 v15 E15 hF15 hR15 => ?_)
     obtain ⟨hx, vx, rfl, hcx, hlx, hpx, hdx⟩ := hR15
     obtain ⟨ax, mx, cx, rfl⟩ := hdx.shape3
     refine s_fin (fun w1 hw => ⟨_, ⟨F15, E15, r.b5, r.b6, some (hx, ax, mx, cx)⟩, rfl, ⟨hF15, fun _ h => h, fun _ h => h, (fun _ h => (by rw [(hG.q hbi).1] at h; cases h))⟩, ⟨fun a v h => hF15 a v (hG.more a v h), hG.b5, hG.b6, (fun h => (by cases h)), fun k y m z e => (by cases e; exact ⟨hcx, hlx, hpx.mono (more_young _ _), hdx⟩), fun h => ⟨(hG.h11 h).1, rfl⟩, fun h => ⟨(hG.h12 h).1, rfl⟩⟩, ?_, fun d hd => (by cases hd; exact ⟨hx, ax, mx, cx, rfl, rfl⟩)⟩)
     rw [← deLo_call h11f h12f]; exact hw
   | 6, ho =>
     obtain rfl := Option.some.inj ho
     intro b1 r g hbi hed hG hl
     have e15 : ∃ x y m z, r.q = some (x, y, m, z) ∧ g 15 = .tuple #[.agg x.cells, .agg (repC (nextM h.core ps a).code (nextM h.core ps a).n (.slice y m z))] := (hl 15 (of_decide_eq_true (by kernel_rfl))).1 (of_decide_eq_true (by kernel_rfl))
     obtain ⟨x1, y1, m1, z1, q1, e15⟩ := e15
     refine s_val (v_move (v := .tuple _) e15) ?_
     exact s_fin (fun w1 hw => ⟨_, r, rfl, .refl r, ⟨hG.more, hG.b5, hG.b6, hG.q, hG.has, hG.h11, hG.h12⟩, hw, fun d hd => (by cases hd; exact ⟨x1, y1, m1, z1, q1, rfl⟩)⟩)
   | 7, ho =>
     obtain rfl := Option.some.inj ho
     intro b1 r g hbi hed hG hl
     have e9 : ∃ x y m z, r.q = some (x, y, m, z) ∧ g 9 = .tuple #[.agg x.cells, .agg (repC (nextM h.core ps a).code (nextM h.core ps a).n (.slice y m z))] := (hl 9 (of_decide_eq_true (by kernel_rfl))).1 (of_decide_eq_true (by kernel_rfl))
     obtain ⟨x1, y1, m1, z1, q1, e9⟩ := e9
     refine s_val (v_extract e9 rfl) ?_
     exact s_fin (fun w1 hw => ⟨_, r, rfl, .refl r, ⟨hG.more, hG.b5, hG.b6, hG.q, hG.has, hG.h11, hG.h12⟩, hw, fun d hd => (by cases hd; exact ⟨x1, y1, m1, z1, q1, rfl⟩)⟩)
   | 8, ho =>
     obtain rfl := Option.some.inj ho
     intro b1 r g hbi hed hG hl
     have e9 : ∃ x y m z, r.q = some (x, y, m, z) ∧ g 9 = .tuple #[.agg x.cells, .agg (repC (nextM h.core ps a).code (nextM h.core ps a).n (.slice y m z))] := (hl 9 (of_decide_eq_true (by kernel_rfl))).1 (of_decide_eq_true (by kernel_rfl))
     obtain ⟨x1, y1, m1, z1, q1, e9⟩ := e9
     refine s_val (v_extract e9 rfl) ?_
     exact s_fin (fun w1 hw => ⟨_, r, rfl, .refl r, ⟨hG.more, hG.b5, hG.b6, hG.q, hG.has, hG.h11, hG.h12⟩, hw, fun d hd => (by cases hd; exact ⟨x1, y1, m1, z1, q1, rfl⟩)⟩)
   | 9, ho =>
     obtain rfl := Option.some.inj ho
     intro b1 r g hbi hed hG hl
     have h11f : b1 11 = false := by cases e : b1 11 with | false => rfl | true => (have := (hG.h11 e).1; rw [hbi] at this; cases this)
     refine s_alloc (z := .agg zeroH.cells) (by kernel_rfl) (fun bn => ?_)
     exact s_fin (fun w1 hw => ⟨_, ⟨r.F, r.E, some bn, r.b6, r.q⟩, rfl, ⟨fun _ _ h => h, (fun _ h => (by rw [hG.b5 hbi] at h; cases h)), fun _ h => h, fun _ h => h⟩, ⟨hG.more, (fun h => (by cases h)), hG.b6, hG.q, hG.has, fun h => ⟨rfl, (hG.h11 h).2⟩, hG.h12⟩, hw.perm (deLo_alloc5 (hG.b5 hbi) h11f bn), fun d hd => (by cases hd; exact ⟨bn, rfl, rfl⟩)⟩)
   | 10, ho =>
     obtain rfl := Option.some.inj ho
     intro b1 r g hbi hed hG hl
     have h12f : b1 12 = false := by cases e : b1 12 with | false => rfl | true => (have := (hG.h12 e).1; rw [hbi] at this; cases this)
     refine s_alloc (z := .agg (repC 0 0 (.slice none 0 0))) (by kernel_rfl) (fun bn => ?_)
     exact s_fin (fun w1 hw => ⟨_, ⟨r.F, r.E, r.b5, some bn, r.q⟩, rfl, ⟨fun _ _ h => h, fun _ h => h, (fun _ h => (by rw [hG.b6 hbi] at h; cases h)), fun _ h => h⟩, ⟨hG.more, hG.b5, (fun h => (by cases h)), hG.q, hG.has, hG.h11, fun h => ⟨rfl, (hG.h12 h).2⟩⟩, hw.perm (deLo_alloc6 (hG.b6 hbi) h12f bn), fun d hd => (by cases hd; exact ⟨bn, rfl, rfl⟩)⟩)
   | 11, ho =>
     obtain rfl := Option.some.inj ho
     intro b1 r g hbi hed hG hl
     have e5 : ∃ x, r.b5 = some x ∧ g 5 = .pointer (some ⟨x, 0, none⟩) := (hl 5 (of_decide_eq_true (by kernel_rfl))).1 (of_decide_eq_true (by kernel_rfl))
     have e16 : ∃ x y m z, r.q = some (x, y, m, z) ∧ g 16 = .agg x.cells := (hl 16 (of_decide_eq_true (by kernel_rfl))).1 (of_decide_eq_true (by kernel_rfl))
     obtain ⟨bx, qb, e5⟩ := e5
     obtain ⟨x1, y1, m1, z1, q1, e16⟩ := e16
     have hed9 : b1 9 = true := by cases e : b1 9 with | true => rfl | false => (have := hG.b5 e; rw [qb] at this; cases this)
     have hed5 : b1 5 = true := by cases e : b1 5 with | true => rfl | false => (have := (hG.q e).1; rw [q1] at this; cases this)
     refine s_weak (fun w1 hw => (show Has w r.F _ w1 from (by rw [deLo_b5 qb hbi] at hw; exact hw))) ?_
     refine s_storeA (m := 42) (by kernel_rfl) e5 e16 (.app (.app .here)) (H.size _) (H.size _) (H.all1 _) ?_
     refine s_fin (fun w1 hw => ⟨undef, r, rfl, .refl r, ⟨hG.more, hG.b5, hG.b6, hG.q, hG.has, fun _ => ⟨hed9, hed5⟩, hG.h12⟩, ?_, fun d hd => (by cases hd)⟩)
     rw [← deLo_st5 qb q1]; exact hw
   | 12, ho =>
     obtain rfl := Option.some.inj ho
     intro b1 r g hbi hed hG hl
     have e6 : ∃ x, r.b6 = some x ∧ g 6 = .pointer (some ⟨x, 0, none⟩) := (hl 6 (of_decide_eq_true (by kernel_rfl))).1 (of_decide_eq_true (by kernel_rfl))
     have e17 : ∃ x y m z, r.q = some (x, y, m, z) ∧ g 17 = .agg (repC (nextM h.core ps a).code (nextM h.core ps a).n (.slice y m z)) := (hl 17 (of_decide_eq_true (by kernel_rfl))).1 (of_decide_eq_true (by kernel_rfl))
     obtain ⟨bx, qb, e6⟩ := e6
     obtain ⟨x1, y1, m1, z1, q1, e17⟩ := e17
     have hed10 : b1 10 = true := by cases e : b1 10 with | true => rfl | false => (have := hG.b6 e; rw [qb] at this; cases this)
     have hed5 : b1 5 = true := by cases e : b1 5 with | true => rfl | false => (have := (hG.q e).1; rw [q1] at this; cases this)
     refine s_weak (fun w1 hw => (show Has w r.F _ w1 from (by rw [deLo_b6 qb hbi] at hw; exact hw))) ?_
     refine s_storeA (m := 3) (by kernel_rfl) e6 e17 (.app .here) rep_size rep_size rep_all ?_
     refine s_fin (fun w1 hw => ⟨undef, r, rfl, .refl r, ⟨hG.more, hG.b5, hG.b6, hG.q, hG.has, hG.h11, fun _ => ⟨hed10, hed5⟩⟩, ?_, fun d hd => (by cases hd)⟩)
     rw [← deLo_st6 qb q1]; exact hw
   | n + 13, ho => cases ho
 intro b18 r1 g hall hG hd he
 obtain ⟨b5, q5, e5⟩ : ∃ x, r1.b5 = some x ∧ g 5 = .pointer (some ⟨x, 0, none⟩) := hd 5 (of_decide_eq_true (by kernel_rfl))
 obtain ⟨b6, q6, e6⟩ : ∃ x, r1.b6 = some x ∧ g 6 = .pointer (some ⟨x, 0, none⟩) := hd 6 (of_decide_eq_true (by kernel_rfl))
 obtain ⟨hx, ax, mx, cx, qq, _⟩ : ∃ x y m z, r1.q = some (x, y, m, z) ∧ g 16 = .agg x.cells := hd 16 (of_decide_eq_true (by kernel_rfl))
 obtain ⟨hcx, hlx, hpx, hdx⟩ := hG.has _ _ _ _ qq
 have hmr := hG.more
 rw [deLo_all q5 q6 qq (hall 11 (by decide)) (hall 12 (by decide))]
 have e0 : g 0 = .pointer (some ⟨b, 0, none⟩) := he 0 (of_decide_eq_true (by kernel_rfl))
 have e3 : g 3 = .pointer (some ⟨b3, 0, none⟩) := he 3 (of_decide_eq_true (by kernel_rfl))
 have e4 : g 4 = .pointer (some ⟨b4, 0, none⟩) := he 4 (of_decide_eq_true (by kernel_rfl))
 obtain ⟨g1, hg1⟩ : ∃ g1, g = (upd (upd (upd (upd (upd g1 0 (.pointer (some ⟨b, 0, none⟩))) 3 (.pointer (some ⟨b3, 0, none⟩))) 4 (.pointer (some ⟨b4, 0, none⟩))) 5 (.pointer (some ⟨b5, 0, none⟩))) 6 (.pointer (some ⟨b6, 0, none⟩))) := ⟨g, live5 e0 e3 e4 e5 e6⟩
 rw [hg1]
 refine c_seq ?_
 refine r_seq (by kernel_rfl) ?_
 refine s_val (v_field (fo := 0) (by kernel_rfl) rfl) ?_
 refine s_val (v_load1 (v := .int .i64 _) (by kernel_rfl) rfl (.app .here) rfl) ?_
 refine s_val (v_neq (k := .i64) rfl rfl) ?_
 refine s_nil ?_
 refine c_condN rfl rfl (fun h20 => ?_) (fun h20 => ?_)
 · refine r_seq (by kernel_rfl) ?_
   refine s_val (v_loadA (m := 3) (by kernel_rfl) rfl (.app .here) rfl) ?_
   refine s_storeA (m := 3) (by kernel_rfl) rfl rfl (.app (.there (.there .here))) rfl rfl rep_all ?_
   refine s_nil ?_
   refine c_ret ?_
   refine n_ret ?_
   have q6 : decide ((nextM h.core ps a).code = 0) = false := h20
   refine n_doneWD (m := 3) rfl (by decide) rfl (by kernel_rfl) (.app (.there (.there .here))) rep_size (fun w1 hw => ?_)
   refine ⟨r1.E ++ [(b, .cells (bankD h (tx) (!dn) (na : Nat) (decide (0 ≤ fl)) (keptOf fl)) 67 (0, 0))], r1.F, hmr, has_last (hw.sub (List.Sublist.append (List.Sublist.refl _) (List.Sublist.cons _ (List.Sublist.cons _ (List.Sublist.cons _ (List.Sublist.cons _ (List.Sublist.cons_cons _ (List.Sublist.refl _)))))))), ?_⟩
   exact doR_rep (q := (nextM h.core ps a)) (by simp only [execM, q6, cond_true, cond_false, Bool.not_true, Bool.not_false, Bool.or_true, Bool.true_or, Bool.or_false, Bool.false_or]) rfl (hp.mono hmr) hlc hdx
 refine c_skip ?_
 refine n_then ?_
 refine r_seq (by kernel_rfl) ?_
 refine s_val (v_loadA (m := 5) (by kernel_rfl) rfl (.app (.there (.there (.there .here)))) rfl) ?_
 refine s_call (by kernel_rfl) (fun w hw => g_Frame a w) ?_
 refine s_val (v_move (v := .tuple _) rfl) ?_
 refine s_val (v_extract rfl rfl) ?_
 refine s_val (v_extract rfl rfl) ?_
 refine s_val (v_assign (v := S _) rfl) ?_
 refine s_val (v_assign (v := .int .i64 _) rfl) ?_
 refine s_nil ?_
 refine c_seq ?_
 refine r_seq (by kernel_rfl) ?_
 refine s_val (v_move (v := .int .i64 _) rfl) ?_
 refine s_val (v_neq (k := .i64) rfl rfl) ?_
 refine s_nil ?_
 refine c_condN rfl rfl (fun h28 => ?_) (fun h28 => ?_)
 · refine r_seq (by kernel_rfl) ?_
   refine s_val (v_move (v := .int .i64 _) rfl) ?_
   refine s_call (by kernel_rfl) (fun w hw => g_failed _ w) ?_
   refine s_storeA (m := 3) (by kernel_rfl) rfl rfl (.app (.there (.there .here))) rfl rfl rep_all ?_
   refine s_nil ?_
   refine c_ret ?_
   refine n_ret ?_
   have q6 : decide ((nextM h.core ps a).code = 0) = true := h20
   have q7 : noted a = false := frame_codeD.2 (of_decide_eq_false h28)
   refine n_doneWD (m := 3) rfl (by decide) rfl (by kernel_rfl) (.app (.there (.there .here))) rep_size (fun w1 hw => ?_)
   rw [fErr_noD q7]
   exact ⟨[(b, .cells (bankD h (tx) (!dn) (na : Nat) (decide (0 ≤ fl)) (keptOf fl)) 67 (0, 0))], r1.F, hmr, has_one (hw.sub (List.Sublist.trans (List.Sublist.cons _ (List.Sublist.cons _ (List.Sublist.cons _ (List.Sublist.cons _ (List.Sublist.cons_cons _ (List.Sublist.refl _)))))) (List.sublist_append_right _ _))), doR_err (by simp only [execM, q6, q7, cond_true, cond_false, Bool.not_true, Bool.not_false, Bool.or_true, Bool.true_or, Bool.or_false, Bool.false_or]) (hp.mono hmr) hlc⟩
 refine c_skip ?_
 refine n_then ?_
 refine c_seq ?_
 refine r_seq (by kernel_rfl) ?_
 refine s_val (v_move (v := .pointer _) rfl) ?_
 refine s_val (v_nilCheck rfl) ?_
 refine s_val (v_field (fo := 42) (by kernel_rfl) rfl) ?_
 refine s_val (v_load1 (v := .string _) (by kernel_rfl) rfl (.app (.there (.there (.there (.there .here))))) (bankD_text _ _ _ _ _ _)) ?_
 refine s_val (v_strLen (by kernel_rfl) rfl rfl) ?_
 refine s_val (v_move (v := S _) rfl) ?_
 refine s_val (v_strLen (by kernel_rfl) rfl rfl) ?_
 refine s_val (v_add rfl rfl (by omega)) ?_
 refine s_val (v_gtr (k := .i64) rfl rfl) ?_
 refine s_nil ?_
 refine c_cond rfl rfl (fun h39 => ?_) (fun h39 => ?_)
 · refine r_seq (by kernel_rfl) ?_
   refine s_call (by kernel_rfl) (fun w hw => g_failed _ w) ?_
   refine s_storeA (m := 3) (by kernel_rfl) rfl rfl (.app (.there (.there .here))) rfl rfl rep_all ?_
   refine s_nil ?_
   refine c_ret ?_
   refine n_ret ?_
   have q6 : decide ((nextM h.core ps a).code = 0) = true := h20
   have q7 : noted a = true := frame_codeD.1 (of_decide_eq_true h28)
   have q8 : decide (4000 < tx.length + (frameOf a).length) = true := decide_eq_true (by have := of_decide_eq_true h39; rw [fText_yesD q7] at this; omega)
   refine n_doneWD (m := 3) rfl (by decide) rfl (by kernel_rfl) (.app (.there (.there .here))) rep_size (fun w1 hw => ?_)
   exact ⟨[(b, .cells (bankD h (tx) (!dn) (na : Nat) (decide (0 ≤ fl)) (keptOf fl)) 67 (0, 0))], r1.F, hmr, has_one (hw.sub (List.Sublist.trans (List.Sublist.cons _ (List.Sublist.cons _ (List.Sublist.cons _ (List.Sublist.cons _ (List.Sublist.cons_cons _ (List.Sublist.refl _)))))) (List.sublist_append_right _ _))), doR_err (by simp only [execM, q6, q7, q8, cond_true, cond_false, Bool.not_true, Bool.not_false, Bool.or_true, Bool.true_or, Bool.or_false, Bool.false_or]) (hp.mono hmr) hlc⟩
 refine c_skip ?_
 refine n_then ?_
 refine c_seq ?_
 refine r_seq (by kernel_rfl) ?_
 refine s_val (v_move (v := .pointer _) rfl) ?_
 refine s_val (v_nilCheck rfl) ?_
 refine s_val (v_field (fo := 45) (by kernel_rfl) rfl) ?_
 refine s_val (v_load1 (v := .bool _) (by kernel_rfl) rfl (.app (.there (.there (.there (.there .here))))) (bankD_fails _ _ _ _ _ _)) ?_
 refine s_nil ?_
 refine c_condR rfl rfl (fun h44 => ?_) (fun h44 => ?_)
 · refine c_skip ?_
   refine n_then ?_
   refine r_seq (by kernel_rfl) ?_
   refine s_val (v_move (v := .pointer _) rfl) ?_
   refine s_val (v_nilCheck rfl) ?_
   refine s_val (v_field (fo := 42) (by kernel_rfl) rfl) ?_
   refine s_val (v_load1 (v := .string _) (by kernel_rfl) rfl (.app (.there (.there (.there (.there .here))))) (bankD_text _ _ _ _ _ _)) ?_
   refine s_val (v_move (v := S _) rfl) ?_
   refine s_val (v_strAdd rfl rfl (by omega)) ?_
   refine s_val (v_nilCheck rfl) ?_
   refine s_val (v_field (fo := 42) (by kernel_rfl) rfl) ?_
   refine s_store1 (v := .string _) (by kernel_rfl) rfl rfl (.app (.there (.there (.there (.there .here))))) (bankD_setText _ _ _ _ _ _) rfl ?_
   refine s_nil ?_
   refine r_seq (by kernel_rfl) ?_
   refine s_val (v_move (v := .pointer _) rfl) ?_
   refine s_val (v_loadA (m := 42) (by kernel_rfl) rfl (.app (.there .here)) (H.size _)) ?_
   refine s_val (v_nilCheck rfl) ?_
   refine s_val (v_field (fo := 0) (by kernel_rfl) rfl) ?_
   refine s_storeP (m := 42) (by kernel_rfl) rfl rfl (.app (.there (.there (.there (.there .here))))) (by rw [bankD_size]; omega) (H.size _) (bankD_over _ _ _ _ _ _ _) (H.all1 _) ?_
   refine s_nil ?_
   refine r_seq (by kernel_rfl) ?_
   refine s_val (v_loadA (m := 3) (by kernel_rfl) rfl (.app .here) rfl) ?_
   refine s_storeA (m := 3) (by kernel_rfl) rfl rfl (.app (.there (.there .here))) rfl rfl rep_all ?_
   refine s_nil ?_
   refine c_ret ?_
   have q6 : decide ((nextM h.core ps a).code = 0) = true := h20
   have q7 : noted a = true := frame_codeD.1 (of_decide_eq_true h28)
   have q8 : decide (4000 < tx.length + (frameOf a).length) = false := decide_eq_false (by have := of_decide_eq_false h39; rw [fText_yesD q7] at this; omega)
   have q9 : decide (0 ≤ fl) = false := h44
   refine n_doneWD (m := 3) rfl (by decide) rfl (by kernel_rfl) (.app (.there (.there .here))) rep_size (fun w1 hw => ?_)
   refine ⟨r1.E ++ [(b, .cells (bankD hx (tx ++ frameOf a) (!dn) (na : Nat) (decide (0 ≤ fl)) (keptOf fl)) 67 (0, 0))], r1.F, hmr, by have h2 := hw.sub (List.Sublist.append (List.Sublist.refl _) (List.Sublist.cons _ (List.Sublist.cons _ (List.Sublist.cons _ (List.Sublist.cons _ (List.Sublist.cons_cons _ (List.Sublist.refl _))))))); rw [fText_yesD q7] at h2; exact has_last h2, ?_⟩
   exact doR_rep (q := (nextM h.core ps a)) (by simp only [execM, q6, q7, q8, q9, cond_true, cond_false, Bool.not_true, Bool.not_false, Bool.or_true, Bool.true_or, Bool.or_false, Bool.false_or]) hcx hpx hlx hdx
 refine t_seq (k := 16) (by kernel_rfl) (by kernel_rfl) (fun w hw => hw.drew) (by kernel_rfl) ?_
 refine q_val (v_move (v := .pointer _) rfl) ?_
 refine q_val (v_nilCheck rfl) ?_
 refine q_val (v_field (fo := 42) (by kernel_rfl) rfl) ?_
 refine q_val (v_load1 (v := .string _) (by kernel_rfl) rfl (.app (.there (.there (.there (.there .here))))) (bankD_text _ _ _ _ _ _)) ?_
 refine q_val (v_move (v := S _) rfl) ?_
 refine q_val (v_move (v := .pointer _) rfl) ?_
 refine q_val (v_nilCheck rfl) ?_
 refine q_val (v_field (fo := 46) (by kernel_rfl) rfl) ?_
 refine q_val (v_load1 (v := .int .i64 _) (by kernel_rfl) rfl (.app (.there (.there (.there (.there .here))))) (bankD_kept _ _ _ _ _ _)) ?_
 refine q_val (v_move (v := S _) rfl) ?_
 refine q_val (v_strLen (by kernel_rfl) rfl rfl) ?_
 refine q_val (v_min rfl rfl) ?_
 refine q_val (v_strHi (by kernel_rfl) rfl rfl (by have := of_decide_eq_true h44; unfold minI keptOf; split <;> split <;> omega)) ?_
 refine q_val (v_strAdd rfl rfl (by simp only [List.length_take]; omega)) ?_
 refine q_val (v_nilCheck rfl) ?_
 refine q_val (v_field (fo := 42) (by kernel_rfl) rfl) ?_
 refine q_tail ?_
 refine s_store1 (v := .string _) (by kernel_rfl) rfl rfl (.app (.there (.there (.there (.there .here))))) (bankD_setText _ _ _ _ _ _) rfl ?_
 refine s_nil ?_
 refine r_seq (by kernel_rfl) ?_
 refine s_val (v_move (v := .pointer _) rfl) ?_
 refine s_val (v_move (v := .pointer _) rfl) ?_
 refine s_val (v_move (v := .pointer _) rfl) ?_
 refine s_val (v_nilCheck rfl) ?_
 refine s_val (v_field (fo := 43) (by kernel_rfl) rfl) ?_
 refine s_store1 (v := .bool _) (by kernel_rfl) rfl rfl (.app (.there (.there (.there (.there .here))))) (bankD_setUp _ _ _ _ _ _) rfl ?_
 refine s_val (v_nilCheck rfl) ?_
 refine s_val (v_field (fo := 45) (by kernel_rfl) rfl) ?_
 refine s_store1 (v := .bool _) (by kernel_rfl) rfl rfl (.app (.there (.there (.there (.there .here))))) (bankD_setFails _ _ _ _ _ _) rfl ?_
 refine s_val (v_nilCheck rfl) ?_
 refine s_val (v_field (fo := 46) (by kernel_rfl) rfl) ?_
 refine s_store1 (v := .int .i64 _) (by kernel_rfl) rfl rfl (.app (.there (.there (.there (.there .here))))) (bankD_setKept _ _ _ _ _ _) rfl ?_
 refine s_nil ?_
 refine r_seq (by kernel_rfl) ?_
 refine s_call (by kernel_rfl) (fun w hw => g_failed _ w) ?_
 refine s_storeA (m := 3) (by kernel_rfl) rfl rfl (.app (.there (.there .here))) rfl rfl rep_all ?_
 refine s_nil ?_
 refine c_ret ?_
 refine n_ret ?_
 have q6 : decide ((nextM h.core ps a).code = 0) = true := h20
 have q7 : noted a = true := frame_codeD.1 (of_decide_eq_true h28)
 have q8 : decide (4000 < tx.length + (frameOf a).length) = false := decide_eq_false (by have := of_decide_eq_false h39; rw [fText_yesD q7] at this; omega)
 have q9 : decide (0 ≤ fl) = true := h44
 refine n_doneWD (m := 3) rfl (by decide) rfl (by kernel_rfl) (.app (.there (.there .here))) rep_size (fun w1 hw => ?_)
 have hfl := of_decide_eq_true h44
 refine ⟨[(b, .cells (bankD h (tx ++ (frameOf a).take fl.toNat) (!true) (na : Nat) (decide ((0 : Int) ≤ -1)) (keptOf (-1))) 67 (0, 0))], r1.F, hmr, by have h2 := hw.sub (List.Sublist.trans (List.Sublist.cons _ (List.Sublist.cons _ (List.Sublist.cons _ (List.Sublist.cons _ (List.Sublist.cons_cons _ (List.Sublist.refl _)))))) (List.sublist_append_right _ _)); rw [take_minD q7 hfl] at h2; exact has_one h2, ?_⟩
 exact doR_err (by simp only [execM, q6, q7, q8, q9, cond_true, cond_false, Bool.not_true, Bool.not_false, Bool.or_true, Bool.true_or, Bool.or_false, Bool.false_or]) (hp.mono hmr) hlc
end Go.Proofs.Ytmkboljfbmlebab
namespace Go.Proofs.Ytmkboljfbmlebab
open Go.RowKit
set_option linter.unusedSimpArgs false
set_option linter.unusedVariables false
set_option maxRecDepth 100000
attribute [local irreducible] cC sC nC rC qw
set_option maxHeartbeats 2000000 in
theorem g_Do (F : Addr → Value → Prop) (h : H) (b : Nat) (ps : List PayS) (tx : List Nat) (dn : Bool) (fl : Int) (na : Nat) (a : ActS) (hp : PaysIn F h.pa h.pl ps) (hlc : h.pl ≤ h.pc) (hps24 : ps.length ≤ 24) (htx : tx.length ≤ 4000) (hna : na ≤ 200) (hbt : Byt tx) : GivesW Try.prog 17 [.pointer (some ⟨b, 0, none⟩), .agg a.cells] F ([(b, .cells (bankD h (tx) (!dn) (na : Nat) (decide (0 ≤ fl)) (keptOf fl)) 67 (0, 0))]) (DoR 67 b (doM (⟨h.core, ps, tx, dn, fl, na⟩ : BankS) a)) := by
 refine givesW_of Try.func17 rfl Try.ntmps17 (by simp) (fun w K => ?_)
 refine r_seq (by kernel_rfl) ?_
 refine s_box (v := .agg _) rfl (fun b3 => ?_)
 refine s_alloc (z := .agg (repC 0 0 (.slice none 0 0))) (by kernel_rfl) (fun b4 => ?_)
 refine s_nil ?_
 refine c_seq ?_
 refine r_seq (by kernel_rfl) ?_
 refine s_val (v_move (v := .pointer _) rfl) ?_
 refine s_val (v_ptrNil (by kernel_rfl) rfl rfl) ?_
 refine s_nil ?_
 refine c_condFh rfl rfl rfl ?_
 refine c_skip ?_
 refine n_then ?_
 refine c_seq ?_
 refine r_seq (by kernel_rfl) ?_
 refine s_val (v_move (v := .pointer _) rfl) ?_
 refine s_val (v_nilCheck rfl) ?_
 refine s_val (v_field (fo := 44) (by kernel_rfl) rfl) ?_
 refine s_val (v_load1 (v := .int .i64 _) (by kernel_rfl) rfl (.there (.there .here)) (bankD_acts _ _ _ _ _ _)) ?_
 refine s_val (v_geq (k := .i64) rfl rfl) ?_
 refine s_nil ?_
 refine c_cond rfl rfl (fun h12 => ?_) (fun h12 => ?_)
 · refine r_seq (by kernel_rfl) ?_
   refine s_call (by kernel_rfl) (fun w hw => g_failed _ w) ?_
   refine s_storeA (m := 3) (by kernel_rfl) rfl rfl .here rfl rfl rep_all ?_
   refine s_nil ?_
   refine c_ret ?_
   refine n_ret ?_
   have q1 : decide (na = 200) = true := decide_eq_true (by have := of_decide_eq_true h12; omega)
   refine n_doneWD (m := 3) rfl (by decide) rfl (by kernel_rfl) .here rep_size (fun w1 hw => ?_)
   exact ⟨[(b, .cells (bankD h (tx) (!dn) (na : Nat) (decide (0 ≤ fl)) (keptOf fl)) 67 (0, 0))], F, (fun _ _ h => h), has_one (hw.sub (List.Sublist.cons _ (List.Sublist.cons _ (List.Sublist.cons_cons _ (List.Sublist.refl _))))), doR_err (by rw [doM_eq]; simp only [q1, cond_true, cond_false, Bool.not_true, Bool.not_false, Bool.or_true, Bool.true_or, Bool.or_false, Bool.false_or]) hp hlc⟩
 refine c_skip ?_
 refine n_then ?_
 refine r_seq (by kernel_rfl) ?_
 refine s_val (v_move (v := .pointer _) rfl) ?_
 refine s_val (v_nilCheck rfl) ?_
 refine s_val (v_field (fo := 44) (by kernel_rfl) rfl) ?_
 refine s_val (v_load1 (v := .int .i64 _) (by kernel_rfl) rfl (.there (.there .here)) (bankD_acts _ _ _ _ _ _)) ?_
 refine s_val (v_add rfl rfl (by omega)) ?_
 refine s_val (v_nilCheck rfl) ?_
 refine s_val (v_field (fo := 44) (by kernel_rfl) rfl) ?_
 refine s_store1 (v := .int .i64 _) (by kernel_rfl) rfl rfl (.there (.there .here)) (bankD_setActs _ _ _ _ _ _) rfl ?_
 refine s_nil ?_
 refine c_block ?_
 refine r_seq (by kernel_rfl) ?_
 refine s_val (v_field (fo := 0) (by kernel_rfl) rfl) ?_
 refine s_val (v_load1 (v := .int .i64 _) (by kernel_rfl) rfl (.there .here) rfl) ?_
 refine s_val (v_eql (k := .i64) rfl rfl) ?_
 refine s_val (v_assign (v := .bool _) rfl) ?_
 refine s_nil ?_
 refine c_cond rfl rfl (fun h24 => ?_) (fun h24 => ?_)
 · refine r_seq (by kernel_rfl) ?_
   refine s_val (v_move (v := .pointer _) rfl) ?_
   refine s_weak (fun w1 hw => hw.perm (List.Perm.cons _ (List.Perm.swap _ _ _))) ?_
   refine s_weak (fun w1 hw => hw.perm (List.Perm.swap _ _ _)) ?_
   refine s_callW (B := [(b, .cells (bankD h (tx) (!dn) (na + 1 : Nat) (decide (0 ≤ fl)) (keptOf fl)) 67 (0, 0))]) (by kernel_rfl) (g_open F h b ps tx dn fl (na + 1) hbt hp hlc hps24 htx) (fun F1 v1 B1 hF1 hR1 => ?_)
   obtain ⟨vd, E1, B2, rfl, rfl, hi1, hr1⟩ := hR1
   obtain ⟨a1, c1, rfl, hi2⟩ := id hi1
   refine s_weak (fun w1 hw => has_assoc hw) ?_
   refine s_storeA (m := 3) (by kernel_rfl) rfl rfl (.app (.app .here)) rfl rfl rep_all ?_
   refine s_nil ?_
   refine c_ret ?_
   refine n_bret ?_
   have q1 : decide (na = 200) = false := decide_eq_false (by have := of_decide_eq_false h12; omega)
   have q2 : decide (a.kind = 11) = true := decide_eq_true (by have := of_decide_eq_true h24; omega)
   have he : doM (⟨h.core, ps, tx, dn, fl, na⟩ : BankS) a = openM { c := h.core, ps := ps, text := tx, down := dn, fail := fl, acts := na + 1 } := by rw [doM_eq]; simp only [q1, q2, cond_true, cond_false, Bool.not_true, Bool.not_false, Bool.or_true, Bool.true_or, Bool.or_false, Bool.false_or]
   refine n_doneWD (m := 3) rfl (by decide) rfl (by kernel_rfl) (.app (.app .here)) rep_size (fun w1 hw => ?_)
   refine ⟨E1 ++ B2, F1, hF1, has_assoc' (hw.sub (List.Sublist.append (List.Sublist.refl _) (List.Sublist.append (List.Sublist.refl _) (List.Sublist.cons _ (List.Sublist.cons _ (List.Sublist.refl _)))))), ?_⟩
   rw [he]
   exact ⟨_, E1, B2, rfl, rfl, hi1, hr1⟩
 refine r_seq (by kernel_rfl) ?_
 refine s_val (v_move (v := .pointer _) rfl) ?_
 refine s_val (v_nilCheck rfl) ?_
 refine s_val (v_field (fo := 43) (by kernel_rfl) rfl) ?_
 refine s_val (v_load1 (v := .bool _) (by kernel_rfl) rfl (.there (.there .here)) (bankD_up _ _ _ _ _ _)) ?_
 refine s_val (v_not rfl) ?_
 refine s_val (v_assign (v := .bool _) rfl) ?_
 refine s_nil ?_
 refine c_condN rfl rfl (fun h30 => ?_) (fun h30 => ?_)
 · refine r_seq (by kernel_rfl) ?_
   refine s_call (by kernel_rfl) (fun w hw => g_failed _ w) ?_
   refine s_storeA (m := 3) (by kernel_rfl) rfl rfl .here rfl rfl rep_all ?_
   refine s_nil ?_
   refine c_ret ?_
   refine n_bret ?_
   have q1 : decide (na = 200) = false := decide_eq_false (by have := of_decide_eq_false h12; omega)
   have q2 : decide (a.kind = 11) = false := decide_eq_false (by have := of_decide_eq_false h24; omega)
   have q3 : dn = true := by cases dn with | true => rfl | false => cases h30
   refine n_doneWD (m := 3) rfl (by decide) rfl (by kernel_rfl) .here rep_size (fun w1 hw => ?_)
   exact ⟨[(b, .cells (bankD h (tx) (!dn) (na + 1 : Nat) (decide (0 ≤ fl)) (keptOf fl)) 67 (0, 0))], F, (fun _ _ h => h), has_one (hw.sub (List.Sublist.cons _ (List.Sublist.cons _ (List.Sublist.cons_cons _ (List.Sublist.refl _))))), doR_err (by rw [doM_eq]; simp only [q1, q2, q3, cond_true, cond_false, Bool.not_true, Bool.not_false, Bool.or_true, Bool.true_or, Bool.or_false, Bool.false_or]) hp hlc⟩
 refine r_seq (by kernel_rfl) ?_
 refine s_val (v_field (fo := 0) (by kernel_rfl) rfl) ?_
 refine s_val (v_load1 (v := .int .i64 _) (by kernel_rfl) rfl (.there .here) rfl) ?_
 refine s_val (v_eql (k := .i64) rfl rfl) ?_
 refine s_val (v_assign (v := .bool _) rfl) ?_
 refine s_nil ?_
 refine c_condR rfl rfl (fun h37 => ?_) (fun h37 => ?_)
 · refine r_seq (by kernel_rfl) ?_
   refine s_val (v_move (v := .pointer _) rfl) ?_
   refine s_val (v_loadA (m := 5) (by kernel_rfl) rfl (.there .here) rfl) ?_
   refine s_weak (fun w1 hw => hw.perm (List.Perm.cons _ (List.Perm.swap _ _ _))) ?_
   refine s_weak (fun w1 hw => hw.perm (List.Perm.swap _ _ _)) ?_
   refine s_callW (B := [(b, .cells (bankD h (tx) (!dn) (na + 1 : Nat) (decide (0 ≤ fl)) (keptOf fl)) 67 (0, 0))]) (by kernel_rfl) (g_execute F h b ps tx dn fl (na + 1) a hp hlc hps24 htx) (fun F1 v1 B1 hF1 hR1 => ?_)
   obtain ⟨vd, E1, B2, rfl, rfl, hi1, hr1⟩ := hR1
   obtain ⟨a1, c1, rfl, hi2⟩ := id hi1
   refine s_weak (fun w1 hw => has_assoc hw) ?_
   refine s_storeA (m := 3) (by kernel_rfl) rfl rfl (.app (.app .here)) rfl rfl rep_all ?_
   refine s_nil ?_
   refine c_ret ?_
   refine n_bret ?_
   have q1 : decide (na = 200) = false := decide_eq_false (by have := of_decide_eq_false h12; omega)
   have q2 : decide (a.kind = 11) = false := decide_eq_false (by have := of_decide_eq_false h24; omega)
   have q3 : dn = false := by cases dn with | false => rfl | true => cases h30
   have q4 : decide (a.kind = 10) = false := decide_eq_false (by have := of_decide_eq_false h37; omega)
   have he : doM (⟨h.core, ps, tx, dn, fl, na⟩ : BankS) a = execM { c := h.core, ps := ps, text := tx, down := dn, fail := fl, acts := na + 1 } a := by rw [doM_eq]; simp only [q1, q2, q3, q4, cond_true, cond_false, Bool.not_true, Bool.not_false, Bool.or_true, Bool.true_or, Bool.or_false, Bool.false_or]
   refine n_doneWD (m := 3) rfl (by decide) rfl (by kernel_rfl) (.app (.app .here)) rep_size (fun w1 hw => ?_)
   refine ⟨E1 ++ B2, F1, hF1, has_assoc' (hw.sub (List.Sublist.append (List.Sublist.refl _) (List.Sublist.append (List.Sublist.refl _) (List.Sublist.cons _ (List.Sublist.cons _ (List.Sublist.refl _)))))), ?_⟩
   rw [he]
   exact ⟨_, E1, B2, rfl, rfl, hi1, hr1⟩
 refine r_seq (by kernel_rfl) ?_
 refine s_val (v_move (v := .pointer _) rfl) ?_
 refine s_val (v_field (fo := 4) (by kernel_rfl) rfl) ?_
 refine s_val (v_load1 (v := .int .i64 _) (by kernel_rfl) rfl (.there .here) rfl) ?_
 refine s_weak (fun w1 hw => hw.perm (List.Perm.cons _ (List.Perm.swap _ _ _))) ?_
 refine s_weak (fun w1 hw => hw.perm (List.Perm.swap _ _ _)) ?_
 refine s_callW (B := [(b, .cells (bankD h (tx) (!dn) (na + 1 : Nat) (decide (0 ≤ fl)) (keptOf fl)) 67 (0, 0))]) (by kernel_rfl) (g_schedule F h b ps tx dn fl (na + 1) a.n hp hlc hps24 htx) (fun F1 v1 B1 hF1 hR1 => ?_)
 obtain ⟨vd, E1, B2, rfl, rfl, hi1, hr1⟩ := hR1
 obtain ⟨a1, c1, rfl, hi2⟩ := id hi1
 refine s_weak (fun w1 hw => has_assoc hw) ?_
 refine s_storeA (m := 3) (by kernel_rfl) rfl rfl (.app (.app .here)) rfl rfl rep_all ?_
 refine s_nil ?_
 refine c_ret ?_
 refine n_bret ?_
 have q1 : decide (na = 200) = false := decide_eq_false (by have := of_decide_eq_false h12; omega)
 have q2 : decide (a.kind = 11) = false := decide_eq_false (by have := of_decide_eq_false h24; omega)
 have q3 : dn = false := by cases dn with | false => rfl | true => cases h30
 have q4 : decide (a.kind = 10) = true := decide_eq_true (by have := of_decide_eq_true h37; omega)
 have he : doM (⟨h.core, ps, tx, dn, fl, na⟩ : BankS) a = schedM { c := h.core, ps := ps, text := tx, down := dn, fail := fl, acts := na + 1 } a.n := by rw [doM_eq]; simp only [q1, q2, q3, q4, cond_true, cond_false, Bool.not_true, Bool.not_false, Bool.or_true, Bool.true_or, Bool.or_false, Bool.false_or]
 refine n_doneWD (m := 3) rfl (by decide) rfl (by kernel_rfl) (.app (.app .here)) rep_size (fun w1 hw => ?_)
 refine ⟨E1 ++ B2, F1, hF1, has_assoc' (hw.sub (List.Sublist.append (List.Sublist.refl _) (List.Sublist.append (List.Sublist.refl _) (List.Sublist.cons _ (List.Sublist.cons _ (List.Sublist.refl _)))))), ?_⟩
 rw [he]
 exact ⟨_, E1, B2, rfl, rfl, hi1, hr1⟩
end Go.Proofs.Ytmkboljfbmlebab
namespace Go.Proofs.Ytmkboljfbmlebab
open Go.RowKit
set_option linter.unusedSimpArgs false
set_option linter.unusedVariables false
set_option maxRecDepth 100000
attribute [local irreducible] cC sC nC rC qw
theorem g_nilDo (a : ActS) (w : World) : Gives Try.prog 17 [.pointer none, .agg a.cells] w (.agg (repC 4 0 (.slice none 0 0))) := by
 refine gives_of Try.func17 rfl Try.ntmps17 (by simp) ?_
 refine r_seq (by kernel_rfl) ?_
 refine s_box (v := .agg _) rfl (fun b3 => ?_)
 refine s_alloc (z := .agg (repC 0 0 (.slice none 0 0))) (by kernel_rfl) (fun b4 => ?_)
 refine s_nil ?_
 refine c_seq ?_
 refine r_seq (by kernel_rfl) ?_
 refine s_val (v_move (v := .pointer _) rfl) ?_
 refine s_val (v_ptrNil (by kernel_rfl) rfl rfl) ?_
 refine s_nil ?_
 refine c_condTh rfl rfl rfl ?_
 refine r_seq (by kernel_rfl) ?_
 refine s_call (by kernel_rfl) (fun w hw => g_failed _ w) ?_
 refine s_storeA (m := 3) (by kernel_rfl) rfl rfl .here rfl rfl rep_all ?_
 refine s_nil ?_
 refine c_ret ?_
 refine n_ret ?_
 refine n_doneC (m := 3) rfl (by decide) rfl (by kernel_rfl) .here rep_size rfl
theorem g_nilHouse  (w : World) : Gives Try.prog 19 [.pointer none] w (.agg zeroH.cells) := by
 refine gives_of Try.func19 rfl Try.ntmps19 (by simp) ?_
 refine r_seq (by kernel_rfl) ?_
 refine s_alloc (z := .agg zeroH.cells) (by kernel_rfl) (fun b2 => ?_)
 refine s_nil ?_
 refine c_seq ?_
 refine r_seq (by kernel_rfl) ?_
 refine s_val (v_move (v := .pointer _) rfl) ?_
 refine s_val (v_ptrNil (by kernel_rfl) rfl rfl) ?_
 refine s_nil ?_
 refine c_condTh rfl rfl rfl ?_
 refine r_seq (by kernel_rfl) ?_
 refine s_val (v_build (vs := []) (cs := zeroH.cells) rfl (by kernel_rfl)) ?_
 refine s_storeA (m := 42) (by kernel_rfl) rfl rfl .here (H.size _) (H.size _) (H.all1 _) ?_
 refine s_nil ?_
 refine c_ret ?_
 refine n_ret ?_
 refine n_doneC (m := 42) rfl (by decide) rfl (by kernel_rfl) .here (H.size _) rfl
theorem g_nilBook  (w : World) : Gives Try.prog 15 [.pointer none] w (.tuple #[S [], .bool false]) := by
 refine gives_of Try.func15 rfl Try.ntmps15 (by simp) ?_
 refine r_seq (by kernel_rfl) ?_
 refine s_val (v_assign (v := S []) rfl) ?_
 refine s_val (v_assign (v := .bool _) rfl) ?_
 refine s_nil ?_
 refine c_seq ?_
 refine r_seq (by kernel_rfl) ?_
 refine s_val (v_move (v := .pointer _) rfl) ?_
 refine s_val (v_ptrNil (by kernel_rfl) rfl rfl) ?_
 refine s_nil ?_
 refine c_condTh rfl rfl rfl ?_
 refine r_seq (by kernel_rfl) ?_
 refine s_val (v_assign (v := S []) rfl) ?_
 refine s_val (v_assign (v := .bool _) rfl) ?_
 refine s_nil ?_
 refine c_ret ?_
 refine n_ret ?_
 exact n_doneI2 rfl (by decide) (by decide) rfl
theorem g_NewBank  (w : World) : GivesE Try.prog 40 [] w (fun v E => ∃ b, v = .pointer (some ⟨b, 0, none⟩) ∧ E = [(b, .cells (bankD newM [] true 0 false 0) 67 (0, 0))]) := by
 refine givesE_of Try.func40 rfl Try.ntmps40 (by simp) ?_
 refine r_seq (by kernel_rfl) ?_
 refine s_val (v_assign (v := .pointer _) rfl) ?_
 refine s_nil ?_
 refine r_seq (by kernel_rfl) ?_
 refine s_call (by kernel_rfl) (fun w hw => g_New w) ?_
 refine s_val (v_build (vs := [(0, .agg _), (2, .bool _)]) (cs := bankD newM [] true 0 false 0) rfl (by kernel_rfl)) ?_
 refine s_box (v := .agg _) rfl (fun b3 => ?_)
 refine s_val (v_assign (v := .pointer _) rfl) ?_
 refine s_nil ?_
 refine c_ret ?_
 refine n_doneE (E := [_]) (L := []) rfl (by decide) ⟨b3, rfl, rfl⟩
theorem g_House (h : H) (b : Nat) (ps : List PayS) (tx : List Nat) (up : Bool) (na : Int) (fs : Bool) (kp : Int) (w : World) (hc : ∀ (j : Nat) (v : Value), (bankD h tx up na fs kp)[j]? = some v → At w ⟨b, 0 + j, none⟩ v) (hp : PaysIn (At w) h.pa h.pl ps) (h24 : h.pl ≤ 24) : GivesE Try.prog 19 [.pointer (some ⟨b, 0, none⟩)] w (fun v E => ∃ pa pc, v = .agg ({ h with pa := pa, pc := pc } : H).cells ∧ ListE 50 6 (.slice pa h.pl pc) h.pl (flatC ps) E) := by
 refine givesE_of Try.func19 rfl Try.ntmps19 (by simp) ?_
 refine r_seq (by kernel_rfl) ?_
 refine s_alloc (z := .agg zeroH.cells) (by kernel_rfl) (fun b2 => ?_)
 refine s_nil ?_
 refine c_seq ?_
 refine r_seq (by kernel_rfl) ?_
 refine s_val (v_move (v := .pointer _) rfl) ?_
 refine s_val (v_ptrNil (by kernel_rfl) rfl rfl) ?_
 refine s_nil ?_
 refine c_condFh rfl rfl rfl ?_
 refine c_skip ?_
 refine n_then ?_
 refine r_seq (by kernel_rfl) ?_
 refine s_val (v_move (v := .pointer _) rfl) ?_
 refine s_val (v_nilCheck rfl) ?_
 refine s_val (v_field (fo := 0) (by kernel_rfl) rfl) ?_
 refine s_val (v_loadNo (cs := h.cells) (m := 42) (by kernel_rfl) rfl (H.size _) (fun j v hv => by have e := hc j v (by unfold bankD; rw [Array.getElem?_append_left (Array.getElem?_eq_some_iff.1 hv).1]; exact hv); exact e)) ?_
 refine s_callE (by kernel_rfl) (fun w hw => g_ownL h ps w (hp.at hw) h24) (fun v10 E10 hR10 => ?_)
 obtain ⟨pa10, pc10, rfl, hE10⟩ := hR10
 refine s_storeA (m := 42) (by kernel_rfl) rfl rfl (.app .here) (H.size _) (H.size _) (H.all1 _) ?_
 refine s_nil ?_
 refine c_ret ?_
 refine n_doneCE (E := E10) (m := 42) rfl (by decide) rfl (by kernel_rfl) (.app .here) (H.size _) (fun w hw => hw) ⟨_, _, rfl, hE10⟩
theorem g_Book (h : H) (b : Nat) (ps : List PayS) (tx : List Nat) (up : Bool) (na : Int) (fs : Bool) (kp : Int) (w : World) (hc : ∀ (j : Nat) (v : Value), (bankD h tx up na fs kp)[j]? = some v → At w ⟨b, 0 + j, none⟩ v) : Gives Try.prog 15 [.pointer (some ⟨b, 0, none⟩)] w (.tuple #[S tx, .bool up]) := by
 refine gives_of Try.func15 rfl Try.ntmps15 (by simp) ?_
 refine r_seq (by kernel_rfl) ?_
 refine s_val (v_assign (v := S []) rfl) ?_
 refine s_val (v_assign (v := .bool _) rfl) ?_
 refine s_nil ?_
 refine c_seq ?_
 refine r_seq (by kernel_rfl) ?_
 refine s_val (v_move (v := .pointer _) rfl) ?_
 refine s_val (v_ptrNil (by kernel_rfl) rfl rfl) ?_
 refine s_nil ?_
 refine c_condFh rfl rfl rfl ?_
 refine c_skip ?_
 refine n_then ?_
 refine d_seq (by kernel_rfl) (by kernel_rfl) (fun w hw => hw.drew) (by kernel_rfl) ?_
 refine q_val (v_move (v := .pointer _) rfl) ?_
 refine q_val (v_nilCheck rfl) ?_
 refine q_val (v_field (fo := 42) (by kernel_rfl) rfl) ?_
 refine q_val (v_load1o (v := S tx) (by kernel_rfl) rfl (hc 42 _ (bankD_text h tx up na fs kp))) ?_
 refine q_val (v_move (v := .pointer _) rfl) ?_
 refine q_val (v_nilCheck rfl) ?_
 refine q_val (v_field (fo := 43) (by kernel_rfl) rfl) ?_
 refine q_val (v_load1o (v := .bool up) (by kernel_rfl) rfl (hc 43 _ (bankD_up h tx up na fs kp))) ?_
 refine q_val (v_assign (v := S _) rfl) ?_
 refine q_val (v_assign (v := .bool _) rfl) ?_
 refine q_nil ?_
 refine c_ret ?_
 exact n_doneI2 rfl (by decide) (by decide) rfl
end Go.Proofs.Ytmkboljfbmlebab
namespace Go.Proofs.Ytmkboljfbmlebab
open Go.RowKit
set_option linter.unusedSimpArgs false
set_option linter.unusedVariables false
def aPay : ActS := ⟨1, 0, 1, 0, 7⟩
def aFund : ActS := ⟨6, 0, 0, 0, 7⟩
def lC1 : H := { newM.core with next := newM.core.next + 1 }
def lP1 : List PayS := [] ++ [newPay newM.core aPay]
def lC2 : H := { lC1 with has := up1 lC1.has 0 (lC1.has 0 + 7) }
def lS2 : QS := QS.go ⟨lC2, lP1, []⟩ 0
theorem rest_sweep {s : QS} {b : Nat} (h : ∀ i : Nat, i < 4 → firstM s.c s.ps i = none) (hb : b < 4) : sweepFrom b 0 s = s := by
 have m : ∀ k : Nat, k % 4 < 4 := fun k => Nat.mod_lt _ (by omega)
 rw [sweep_idle (by omega) (drain_end (h b hb)) rfl, sweep_idle (by omega) (drain_end (h _ (m _))) rfl, sweep_idle (by omega) (drain_end (h _ (m _))) rfl, sweep_idle (by omega) (drain_end (h _ (m _))) rfl, sweep_end (by omega)]
theorem lSweep1 : sweepM lC1 lP1 = ⟨lC1, lP1, []⟩ := by
 unfold sweepM
 rw [show goodB lC1 lP1 = true by kernel_rfl, cond_true]
 refine rest_sweep (fun i hi => ?_) (by omega)
 have : i = 0 ∨ i = 1 ∨ i = 2 ∨ i = 3 := by omega
 rcases this with rfl | rfl | rfl | rfl <;> (show _ = _; kernel_rfl)
theorem lSweep2 : sweepM lC2 lP1 = lS2 := by
 unfold sweepM
 rw [show goodB lC2 lP1 = true by kernel_rfl, cond_true]
 have r : ∀ i : Nat, i < 4 → firstM lS2.c lS2.ps i = none := fun i hi => by
   have : i = 0 ∨ i = 1 ∨ i = 2 ∨ i = 3 := by omega
   rcases this with rfl | rfl | rfl | rfl <;> (show _ = _; kernel_rfl)
 have d : drain (0 : Nat) ⟨lC2, lP1, []⟩ = lS2 := by
   rw [drain_go (i := 0) (by kernel_rfl)]
   exact drain_end (r 0 (by omega))
 rw [sweep_busy (by omega) d (by decide)]
 exact rest_sweep r (by omega)
theorem lNext1 : nextM newM.core [] aPay = ⟨lC1, lP1, 0, 0, []⟩ := by
 have e : nextM newM.core [] aPay = sweepN lC1 lP1 0 [] := by kernel_rfl
 rw [e]
 unfold sweepN
 rw [lSweep1]
 rfl
theorem lNext2 : nextM lC1 lP1 aFund = ⟨lS2.c, lS2.ps, 0, 0, [0]⟩ := by
 have e : nextM lC1 lP1 aFund = sweepN lC2 lP1 0 [] := by kernel_rfl
 rw [e]
 unfold sweepN
 rw [lSweep2]
 rfl
def lB1 : BankS := ⟨lC1, lP1, frameOf aPay, false, -1, 1⟩
theorem lDo1 : doM newB aPay = (lB1, ⟨0, 0, []⟩) := by
 have h : nextM newB.c newB.ps aPay = ⟨lC1, lP1, 0, 0, []⟩ := lNext1
 unfold doM
 rw [h]
 show _ = _
 kernel_rfl
theorem lDo2 : (doM lB1 aFund).2 = ⟨0, 0, [0]⟩ ∧ (doM lB1 aFund).1.down = false ∧ (doM lB1 aFund).1.text = frameOf aPay ++ frameOf aFund ∧ (doM lB1 aFund).1.c = lS2.c := by
 have h : nextM lB1.c lB1.ps aFund = ⟨lS2.c, lS2.ps, 0, 0, [0]⟩ := lNext2
 have e : doM lB1 aFund = ({ lB1 with acts := 2, text := frameOf aPay ++ frameOf aFund, c := lS2.c, ps := lS2.ps }, ⟨0, 0, [0]⟩) := by
   unfold doM
   rw [h]
   show _ = _
   kernel_rfl
 rw [e]
 exact ⟨rfl, rfl, rfl, rfl⟩
theorem lHas : lS2.c.has 1 = 7 := by kernel_rfl
end Go.Proofs.Ytmkboljfbmlebab
namespace Go.Proofs.Ytmkboljfbmlebab
open Go.RowKit
set_option linter.unusedSimpArgs false
set_option linter.unusedVariables false
structure PlG (κ : Type) where
 i : Nat
 F : Addr → Value → Prop
 s : BankS
 b : Nat
 B : List (Nat × Obj)
 c : κ
abbrev repOf (r : RepS) (v : Value) : Value := .agg (repC r.code r.n v)
def Looks (bk : BankOk) {κ : Type} (CB : κ → List (Nat × Obj)) (J : Nat → BankS → κ → (Addr → Value → Prop) → Prop) (xs : List ActS) (kf : FuncId) (caps : List Value) (F : Addr → Value → Prop) : Prop :=
 ∀ (F1 : Addr → Value → Prop) (i : Nat) (s : BankS) (c : κ) (x : ActS) (b : Nat) (B E : List (Nat × Obj)) (a1 : Option Addr) (c1 : Nat), More F F1 → xs[i]? = some x → i < 80 → J i s c F1 → BGood s → s = playM newB (xs.take i) → bk.Rep F1 b B (doM s x).1 → IntsO (doM s x).2.done (.slice a1 (doM s x).2.done.length c1) E →
   GivesW Try.prog kf ([.pointer (some ⟨b, 0, none⟩), .agg x.cells, repOf (doM s x).2 (.slice a1 (doM s x).2.done.length c1)] ++ caps) F1 (E ++ (B ++ CB c)) (fun F2 v B' => v = .bool true ∧ ∃ c', B' = B ++ CB c' ∧ J (i + 1) (doM s x).1 c' F2)
def Played (bk : BankOk) {κ : Type} (CB : κ → List (Nat × Obj)) (J : Nat → BankS → κ → (Addr → Value → Prop) → Prop) (xs : List ActS) (F : Addr → Value → Prop) (v : Value) (B' : List (Nat × Obj)) : Prop :=
 ∃ b B c, v = .tuple #[.pointer (some ⟨b, 0, none⟩), .bool true] ∧ B' = B ++ CB c ∧ bk.Rep F b B (playM newB (xs.take 80)) ∧ BGood (playM newB (xs.take 80)) ∧ J (xs.take 80).length (playM newB (xs.take 80)) c F
theorem play_snoc : ∀ (l : List ActS) (s : BankS) (x : ActS), playM s (l ++ [x]) = (doM (playM s l) x).1
 | [], _, _ => rfl
 | a :: r, s, x => play_snoc r (doM s a).1 x
theorem play_step {xs : List ActS} {i : Nat} {x : ActS} (h : xs[i]? = some x) : playM newB (xs.take (i + 1)) = (doM (playM newB (xs.take i)) x).1 := by
 rw [List.take_add_one, h]
 exact play_snoc _ _ _
theorem bgood_play (l : List ActS) : BGood (playM newB l) := by
 obtain ⟨log, lost, h⟩ := play_ok l bok_new
 exact ⟨log, lost, h⟩
theorem play_all {xs : List ActS} {i : Nat} (hi : i ≤ xs.length) (h80 : i ≤ 80) (h : ¬ (i < xs.length ∧ i < 80)) : xs.take i = xs.take 80 ∧ (xs.take 80).length = i := by
 have : (xs.take 80).length = i := by rw [List.length_take]; omega
 refine ⟨?_, this⟩
 rcases Nat.lt_or_ge i 80 with h1 | h1
 · rw [List.take_of_length_le (by omega), List.take_of_length_le (by omega)]
 · have : i = 80 := by omega
   subst this; rfl
theorem sub_last {α : Type} {A B C : List α} {x : α} : (A ++ (B ++ C)).Sublist (A ++ (B ++ (x :: C))) := List.Sublist.append (List.Sublist.refl _) (List.Sublist.append (List.Sublist.refl _) (List.sublist_cons_self _ _))
theorem alive_has {h : H} (e : h.core = (doM (doM newB aPay).1 aFund).1.c) : h.has 1 = 7 := by
 rw [lDo1] at e
 rw [lDo2.2.2.2] at e
 have : h.core.has 1 = 7 := by rw [e]; exact lHas
 exact this
theorem alive_text : Byt (doM (doM newB aPay).1 aFund).1.text ∧ ¬ (doM (doM newB aPay).1 aFund).1.text = [] := by
 rw [lDo1]
 rw [lDo2.2.2.1]
 exact ⟨Byt.append (frame_byte (by decide)) (frame_byte (by decide)), by simp [frameOf]⟩
theorem bgood_byt {s : BankS} (h : BGood s) : Byt s.text := by
 obtain ⟨log, lost, h⟩ := h
 cases hd : s.down with
 | false =>
   rw [(h.inv.up hd).1]
   exact bytes_byt h.inv.noted
 | true =>
   obtain ⟨a, m, _, hn, ht, _⟩ := h.inv.low hd
   rw [ht]
   exact Byt.append (bytes_byt h.inv.noted) (fun b hb => frame_byte hn b (List.mem_of_mem_take hb))
theorem looks_plain (bk : BankOk) (xs : List ActS) (kf : FuncId) (F : Addr → Value → Prop)
   (h : ∀ (F1 : Addr → Value → Prop) (s : BankS) (r : RepS) (x : ActS) (b : Nat) (B E : List (Nat × Obj)) (a1 : Option Addr) (l1 c1 : Nat), BGood s → bk.Rep F1 b B s → GivesW Try.prog kf [.pointer (some ⟨b, 0, none⟩), .agg x.cells, repOf r (.slice a1 l1 c1)] F1 (E ++ B) (fun F2 v B' => v = .bool true ∧ B' = B)) :
   Looks bk (fun _ : Unit => []) (fun _ _ _ _ => True) xs kf [] F := by
 intro F1 i s c x b B E a1 c1 hF hx hi hJ hg hs hr ho w0 K w hw
 rw [List.append_nil] at hw ⊢
 exact (h F1 (doM s x).1 (doM s x).2 x b B E a1 _ c1 (hg.act x) hr w0 K w hw).mono fun e w' ⟨v, B', F', h1, h2, h3, h4, h5⟩ => ⟨v, B', F', h1, h2, h3, h4, (), by rw [List.append_nil]; exact h5, trivial⟩
theorem bgood_inv {s : BankS} (h : BGood s) : Inv 200 s.c s.ps ∧ Rests s.c s.ps := by
 obtain ⟨log, lost, h⟩ := h
 exact h.house
theorem bgood_good {s : BankS} (h : BGood s) {x : H} (hc : x.core = s.c) : goodB x s.ps = true := by
 have := (bgood_inv h).1.good (by omega)
 rw [← hc] at this
 exact this
theorem look_may {c : H} {ps : List PayS} {b i : Int} {p : PayS} (hf : firstM c ps b = none) (hq : (queueM ps b)[0]? = some i) (hp : ps[i.toNat]? = some p) (g : GoodH c) : mayM c b p.dst p.amt = false := by
 rw [may_eq g]
 unfold firstM at hf
 cases hqq : queueM ps b with
 | nil => rw [hqq] at hq; cases hq
 | cons j r =>
   rw [hqq] at hq hf
   simp at hq; subst hq
   simp only [hp] at hf
   cases hm : maySendM c b p.dst p.amt with
   | false => rfl
   | true => rw [hm] at hf; cases hf
theorem live14 {f : Nat → Value} {s0 s1 s2 s3 s4 s5 s6 s7 s8 s9 s10 s11 s12 s13 : Nat} {v0 v1 v2 v3 v4 v5 v6 v7 v8 v9 v10 v11 v12 v13 : Value} (h0 : f s0 = v0) (h1 : f s1 = v1) (h2 : f s2 = v2) (h3 : f s3 = v3) (h4 : f s4 = v4) (h5 : f s5 = v5) (h6 : f s6 = v6) (h7 : f s7 = v7) (h8 : f s8 = v8) (h9 : f s9 = v9) (h10 : f s10 = v10) (h11 : f s11 = v11) (h12 : f s12 = v12) (h13 : f s13 = v13) : f = upd (upd (upd (upd (upd (upd (upd (upd (upd (upd (upd (upd (upd (upd f s0 v0) s1 v1) s2 v2) s3 v3) s4 v4) s5 v5) s6 v6) s7 v7) s8 v8) s9 v9) s10 v10) s11 v11) s12 v12) s13 v13 := by
 rw [upd_self h0, upd_self h1, upd_self h2, upd_self h3, upd_self h4, upd_self h5, upd_self h6, upd_self h7, upd_self h8, upd_self h9, upd_self h10, upd_self h11, upd_self h12, upd_self h13]
end Go.Proofs.Ytmkboljfbmlebab
namespace Go.Proofs.Ytmkboljfbmlebab
open Go.RowKit
set_option linter.unusedSimpArgs false
set_option linter.unusedVariables false
set_option maxRecDepth 100000
attribute [local irreducible] cC sC nC rC qw
theorem g_DoR (F : Addr → Value → Prop) (b : Nat) (B : List (Nat × Obj)) (s : BankS) (a : ActS) (hg : BGood s) (hr : DevRep 67 F b B s) : GivesW Try.prog 17 [.pointer (some ⟨b, 0, none⟩), .agg a.cells] F B (DoR 67 b (doM s a)) := by
 obtain ⟨h, rfl, hc, hp, hlc⟩ := hr
 have hps24 : s.ps.length ≤ 24 := (bgood_inv hg).1.len
 have htx : s.text.length ≤ 4000 := by obtain ⟨_, _, hh⟩ := id hg; exact hh.inv.len
 have hna : s.acts ≤ 200 := by obtain ⟨_, _, hh⟩ := id hg; exact hh.acts
 have hd := g_Do F h b s.ps s.text s.down s.fail s.acts a hp hlc hps24 htx hna (bgood_byt hg)
 rw [hc] at hd
 exact hd
theorem rep_cells {w : World} {b : Nat} {cs : Array Value} {t : Nat} (hl : Lies w [(b, .cells cs t (0, 0))]) (j : Nat) (v : Value) (hv : cs[j]? = some v) : At w ⟨b, 0 + j, none⟩ v := by
 show w.cell? _ = _
 rw [Nat.zero_add, cell_of_row w b j cs t (0, 0) (hl _ (.head _))]
 exact hv
noncomputable def theBank : BankOk where
 Rep := DevRep 67
 mono := fun h hm => h.mono hm
 new := fun w => ⟨(g_NewBank w).out.mono fun e w' ⟨v, E, h1, h2, h3, b, h4, h5⟩ => ⟨v, E, h1, h2, h3, b, h4, fun F => ⟨newM, h5, rfl, ⟨rfl, .inl rfl⟩, Nat.le_refl _⟩⟩⟩
 act := fun F b B s a hg hr => g_DoR F b B s a hg hr
 house := fun w b B s hg hr hl => by
   obtain ⟨h, rfl, hc, hp, hlc⟩ := hr
   have hps24 : s.ps.length ≤ 24 := (bgood_inv hg).1.len
   have hh := g_House h b s.ps s.text _ _ _ _ w (rep_cells hl) hp (by have := hp.1; omega)
   exact ⟨hh.out.mono fun e w' ⟨v, E, h1, h2, h3, pa, pc, h4, h5⟩ => ⟨v, E, h1, h2, h3, { h with pa := pa, pc := pc }, h4, hc, (ListE.pays h5 hp.1).o⟩⟩
 book := fun w b B s hg hr hl => by
   obtain ⟨h, rfl, hc, hp, hlc⟩ := hr
   exact g_Book h b s.ps s.text _ _ _ _ w (rep_cells hl)
theorem theReplay (w : World) (a : Option Addr) (c : Nat) (l : List ActS) (hx : ActsAt (At w) a l) (hl : l.length ≤ 9223372036854775807) : GivesF Try.prog 34 [.slice a l.length c] w (ReplayF l) := g_Replay a c l w hx hl
theorem theNilDo (w : World) (a : ActS) : Gives Try.prog 17 [.pointer none, .agg a.cells] w (.agg (repC 4 0 (.slice none 0 0))) := g_nilDo a w
theorem theNilHouse (w : World) : Gives Try.prog 19 [.pointer none] w (.agg zeroH.cells) := g_nilHouse w
theorem theNilBook (w : World) : Gives Try.prog 15 [.pointer none] w (.tuple #[S [], .bool false]) := g_nilBook w
end Go.Proofs.Ytmkboljfbmlebab
namespace Go.Proofs.Ytmkboljfbmlebab
open Go.RowKit
set_option linter.unusedSimpArgs false
set_option linter.unusedVariables false
theorem matA_at2 (m : Int → Int → Int) {i k : Int} (hi : 0 ≤ i ∧ i < 4) (hk : 0 ≤ k ∧ k < 4) : (matA m)[0 + i.toNat * 4 + k.toNat * 1]? = some (I (m i k)) := by
 rw [matA, getq _ (by omega)]
 have e : ((0 + i.toNat * 4 + k.toNat * 1) / 4 : Nat) = i.toNat := by omega
 have e' : ((0 + i.toNat * 4 + k.toNat * 1) % 4 : Nat) = k.toNat := by omega
 have h1 : ((i.toNat : Nat) : Int) = i := by omega
 have h2 : ((k.toNat : Nat) : Int) = k := by omega
 simp only [matC, e, e', h1, h2]
theorem matA_set2 (m : Int → Int → Int) {i k v : Int} (hi : 0 ≤ i ∧ i < 4) (hk : 0 ≤ k ∧ k < 4) : 0 + i.toNat * 4 + k.toNat * 1 < (matA m).size ∧ (matA m).setIfInBounds (0 + i.toNat * 4 + k.toNat * 1) (I v) = matA (up2 m i k v) := by
 refine ⟨by rw [matA_size]; omega, ?_⟩
 unfold matA
 refine setq _ _ fun j hj => ?_
 unfold matC up2
 by_cases e : j = 0 + i.toNat * 4 + k.toNat * 1
 · rw [if_pos e, if_pos ⟨by omega, by omega⟩]
 · rw [if_neg e, if_neg (fun h => e (by omega))]
def sentTo (ps : List PayS) (k : Nat) : Int → Int → Int := fun i j => doneS (ps.take k) i j
theorem sentTo_step {ps : List PayS} {k : Nat} {p : PayS} (h : ps[k]? = some p) (i j : Int) : sentTo ps (k + 1) i j = sentTo ps k i j + doneT p i j := by
 unfold sentTo
 rw [List.take_add_one, h]
 show doneS (_ ++ [p]) i j = _
 rw [doneS_append]
 simp [doneS]
theorem sentTo_yes {ps : List PayS} {k : Nat} {p : PayS} (h : ps[k]? = some p) (hs : p.sta = 2) : up2 (sentTo ps k) p.src p.dst (sentTo ps k p.src p.dst + p.amt) = sentTo ps (k + 1) := by
 funext i j
 rw [sentTo_step h]
 unfold up2 doneT
 by_cases e : i = p.src ∧ j = p.dst
 · rw [if_pos e, if_pos ⟨hs, e.1.symm, e.2.symm⟩, e.1, e.2]
 · rw [if_neg e, if_neg (fun h' => e ⟨h'.2.1.symm, h'.2.2.symm⟩)]; omega
theorem sentTo_no {ps : List PayS} {k : Nat} {p : PayS} (h : ps[k]? = some p) (hs : ¬ p.sta = 2) : sentTo ps k = sentTo ps (k + 1) := by
 funext i j
 rw [sentTo_step h]
 unfold doneT
 rw [if_neg (fun h' => hs h'.1)]; omega
theorem sentTo_zero (ps : List PayS) : sentTo ps 0 = fun _ _ => 0 := by funext i j; simp [sentTo, doneS]
theorem matL_congr {m m' : Int → Int → Int} (h : ∀ i j : Int, 0 ≤ i ∧ i < 4 → 0 ≤ j ∧ j < 4 → m i j = m' i j) : matL m = matL m' := by
 unfold matL
 rw [h 0 0 (by omega) (by omega), h 0 1 (by omega) (by omega), h 0 2 (by omega) (by omega), h 0 3 (by omega) (by omega), h 1 0 (by omega) (by omega), h 1 1 (by omega) (by omega), h 1 2 (by omega) (by omega), h 1 3 (by omega) (by omega), h 2 0 (by omega) (by omega), h 2 1 (by omega) (by omega), h 2 2 (by omega) (by omega), h 2 3 (by omega) (by omega), h 3 0 (by omega) (by omega), h 3 1 (by omega) (by omega), h 3 2 (by omega) (by omega), h 3 3 (by omega) (by omega)]
theorem sums_all {s : BankS} (hg : BGood s) {h : H} (hc : h.core = s.c) {k : Nat} (hk : s.ps.length ≤ k) : matL (sentTo s.ps k) = matL h.sent := matL_congr fun i j hi hj => by
 have e := (bgood_inv hg).1.sums i j hi hj
 rw [← hc] at e
 unfold sentTo
 rw [List.take_of_length_le hk]
 exact e.symm
theorem sentTo_range {s : BankS} (hg : BGood s) (k : Nat) (i j : Int) : 0 ≤ sentTo s.ps k i j ∧ sentTo s.ps k i j ≤ 24000000 := by
 have v := (bgood_inv hg).1
 have h := doneS_range (s.ps.take k) (fun p hp => v.goodPs p (List.mem_of_mem_take hp)) i j
 have hl := v.len
 have h3 : (s.ps.take k).length ≤ 24 := by rw [List.length_take]; omega
 unfold sentTo
 omega
theorem pay_banks {s : BankS} (hg : BGood s) {k : Nat} {p : PayS} (hp : s.ps[k]? = some p) : (0 ≤ p.src ∧ p.src < 4) ∧ (0 ≤ p.dst ∧ p.dst < 4) ∧ 1 ≤ p.amt ∧ p.amt ≤ 1000000 := by
 obtain ⟨h1, h2, _, h3, h4⟩ := transfer_spec (pay_transfer ((bgood_inv hg).1.goodPs p (List.mem_of_getElem? hp)))
 exact ⟨h1, h2, h3, h4⟩
def HouseR (s : BankS) : (Addr → Value → Prop) → Value → Prop := fun F v => ∃ h : H, v = .agg h.cells ∧ h.core = s.c ∧ PaysIn F h.pa h.pl s.ps ∧ h.pl ≤ h.pc
theorem houseR_mono (s : BankS) : Mono (HouseR s) := by
 rintro F F' v hm ⟨h, h1, h2, h3, h4⟩
 exact ⟨h, h1, h2, h3.mono hm, h4⟩
theorem houseR_of {s : BankS} {F : Addr → Value → Prop} {v : Value} {E : List (Nat × Obj)} (hk : Knows F E) (h : ∃ h : H, v = .agg h.cells ∧ h.core = s.c ∧ PaysO h.pa h.pl h.pc s.ps E) : HouseR s F v := by
 obtain ⟨h, h1, h2, h3⟩ := h
 exact ⟨h, h1, h2, h3.known hk, h3.2.1⟩
theorem sum_bank {h : H} {s : BankS} (hg : BGood s) (hc : h.core = s.c) : sumM h = total s.c := by
 have e : sumM h = sumM h.core := rfl
 rw [e, hc]
 exact total_sum ((bgood_inv hg).1.house (by omega))
theorem total_do {s : BankS} (hg : BGood s) {a : ActS} (h10 : ¬ a.kind = 10) (h11 : ¬ a.kind = 11) (h7 : ¬ (doM s a).2.code = 7) : total (doM s a).1.c = total s.c + extOf a (doM s a).2.code := by
 have v := (bgood_inv hg).1
 obtain ⟨log, lost, hb⟩ := hg
 obtain ⟨log', lost', st, _⟩ := hb.act a
 generalize (doM s a).1 = s' at st
 generalize (doM s a).2 = r at st h7
 cases st with
 | full h => rw [ext_err (by simp [errR])]; omega
 | same r h1 h2 h3 h4 h5 h6 => rw [ext_err h2]; simp
 | opened l h1 h2 h3 h4 => exact absurd h3 h11
 | failing h1 h2 h3 h4 => exact absurd h3 h10
 | fell m h1 h2 h3 h4 h5 h6 h7' h8 => exact absurd rfl h7
 | went h1 h2 h3 h4 h5 h6 h7' => exact total_act v (by omega) (next_step s.c s.ps a)
theorem total_range {s : BankS} (hg : BGood s) : -9000000000000 ≤ total s.c ∧ total s.c ≤ 9000000000000 := by
 have g := (bgood_inv hg).1.house (by omega)
 have h0 := g.has 0 (by omega)
 have h1 := g.has 1 (by omega)
 have h2 := g.has 2 (by omega)
 have h3 := g.has 3 (by omega)
 unfold total
 omega
theorem out_fund {s : BankS} (hg : BGood s) {a : ActS} (h10 : ¬ a.kind = 10) (h11 : ¬ a.kind = 11) (h7 : ¬ (doM s a).2.code = 7) (h0 : (doM s a).2.code = 0) (hk : a.kind = 6) : total (doM s a).1.c = wr (total s.c + a.n) := by
 have e := total_do hg h10 h11 h7
 rw [h0, ext_fund hk] at e
 have r := total_range (hg.act a)
 rw [wr_in (by omega) (by omega), e]
theorem out_spend {s : BankS} (hg : BGood s) {a : ActS} (h10 : ¬ a.kind = 10) (h11 : ¬ a.kind = 11) (h7 : ¬ (doM s a).2.code = 7) (h0 : (doM s a).2.code = 0) (hk : a.kind = 7) : total (doM s a).1.c = wr (total s.c - a.n) := by
 have e := total_do hg h10 h11 h7
 rw [h0, ext_spend hk] at e
 have r := total_range (hg.act a)
 rw [wr_in (by omega) (by omega), e]; omega
theorem out_none {s : BankS} (hg : BGood s) {a : ActS} (h10 : ¬ a.kind = 10) (h11 : ¬ a.kind = 11) (h7 : ¬ (doM s a).2.code = 7) (h0 : ¬ ((doM s a).2.code = 0 ∧ (a.kind = 6 ∨ a.kind = 7))) : total (doM s a).1.c = total s.c := by
 have e := total_do hg h10 h11 h7
 by_cases hc : (doM s a).2.code = 0
 · rw [ext_no (fun h => h0 ⟨hc, .inl h⟩) (fun h => h0 ⟨hc, .inr h⟩)] at e; omega
 · rw [ext_err hc] at e; omega
theorem total_new : (0 : Int) = total newB.c := by kernel_rfl
theorem bounds_do {s : BankS} (hg : BGood s) {a : ActS} (h11 : ¬ a.kind = 11) :
   (∀ i : Int, 0 ≤ i ∧ i < 4 → (doM s a).1.c.cred i ≠ s.c.cred i ∨ 0 ≤ left (doM s a).1.c i ∨ left s.c i ≤ left (doM s a).1.c i) ∧ ∀ i j : Int, 0 ≤ i ∧ i < 4 → 0 ≤ j ∧ j < 4 → (doM s a).1.c.lim i j < 0 ∨ net (doM s a).1.c i j ≤ (doM s a).1.c.lim i j ∨ net (doM s a).1.c i j ≤ net s.c i j := by
 have v := (bgood_inv hg).1
 obtain ⟨log, lost, hb⟩ := hg
 obtain ⟨log', lost', st, _⟩ := hb.act a
 have same : (∀ i : Int, 0 ≤ i ∧ i < 4 → s.c.cred i ≠ s.c.cred i ∨ 0 ≤ left s.c i ∨ left s.c i ≤ left s.c i) ∧ ∀ i j : Int, 0 ≤ i ∧ i < 4 → 0 ≤ j ∧ j < 4 → s.c.lim i j < 0 ∨ net s.c i j ≤ s.c.lim i j ∨ net s.c i j ≤ net s.c i j :=
   ⟨fun _ _ => .inr (.inr (Int.le_refl _)), fun _ _ _ _ => .inr (.inr (Int.le_refl _))⟩
 generalize (doM s a).1 = s' at st
 generalize (doM s a).2 = r at st
 cases st with
 | full h => exact same
 | same r h1 h2 h3 h4 h5 h6 => exact same
 | opened l h1 h2 h3 h4 => exact absurd h3 h11
 | failing h1 h2 h3 h4 => exact same
 | fell m h1 h2 h3 h4 h5 h6 h7' h8 => exact same
 | went h1 h2 h3 h4 h5 h6 h7' => exact bounds_act v (by omega) (next_step s.c s.ps a)
theorem left_bank {s : BankS} (hg : BGood s) {h : H} (hc : h.core = s.c) {i : Int} (hi : 0 ≤ i ∧ i < 4) : leftM h i = left s.c i := by
 have g := (bgood_inv hg).1.house (by omega)
 rw [← hc] at g ⊢
 have h1 := g.has i hi
 have h2 := g.cred i hi
 have hb : isBankB i = true := by unfold isBankB; rw [within_iff]; omega
 have e : leftM h i = wr (h.core.has i + h.core.cred i) := by simp [leftM, hb, H.core]
 rw [e, wr_in (by omega) (by omega)]
 rfl
theorem net_bank {s : BankS} (hg : BGood s) {h : H} (hc : h.core = s.c) {i j : Int} (hi : 0 ≤ i ∧ i < 4) (hj : 0 ≤ j ∧ j < 4) : netM h i j = net s.c i j := by
 have g := (bgood_inv hg).1.house (by omega)
 rw [← hc] at g ⊢
 have h1 := g.sent i j hi hj
 have h2 := g.sent j i hj hi
 have hb : isBankB i = true := by unfold isBankB; rw [within_iff]; omega
 have hb' : isBankB j = true := by unfold isBankB; rw [within_iff]; omega
 have e : netM h i j = wr (h.core.sent i j - h.core.sent j i) := by simp [netM, hb, hb', H.core]
 rw [e, wr_in (by omega) (by omega)]
 rfl
theorem bounds_left {s : BankS} (hg : BGood s) {a : ActS} (h11 : ¬ a.kind = 11) {h was : H} (hc : h.core = (doM s a).1.c) (hw : was.core = s.c) {i : Int} (hi : 0 ≤ i ∧ i < 4) (h0 : leftM h i < 0) (he : h.cred i = was.cred i) : ¬ leftM h i < leftM was i := by
 have b := (bounds_do hg h11).1 i hi
 rw [left_bank (hg.act a) hc hi] at h0 ⊢
 rw [left_bank hg hw hi]
 rw [← hc, ← hw] at b
 rw [← hc] at h0 ⊢
 rw [← hw]
 have e : h.core.cred i = was.core.cred i := he
 rcases b with b | b | b
 · exact absurd e b
 · omega
 · omega
theorem bounds_net {s : BankS} (hg : BGood s) {a : ActS} (h11 : ¬ a.kind = 11) {h was : H} (hc : h.core = (doM s a).1.c) (hw : was.core = s.c) {i j : Int} (hi : 0 ≤ i ∧ i < 4) (hj : 0 ≤ j ∧ j < 4) (h0 : 0 ≤ h.lim i j) (he : h.lim i j < netM h i j) : ¬ netM was i j < netM h i j := by
 have b := (bounds_do hg h11).2 i j hi hj
 rw [net_bank (hg.act a) hc hi hj] at he ⊢
 rw [net_bank hg hw hi hj]
 rw [← hc, ← hw] at b
 rw [← hc] at he ⊢
 rw [← hw]
 have e : h.core.lim i j = h.lim i j := rfl
 rw [e] at b
 omega
end Go.Proofs.Ytmkboljfbmlebab
namespace Go.Proofs.Ytmkboljfbmlebab
open Go.RowKit
set_option linter.unusedSimpArgs false
set_option linter.unusedVariables false
theorem Lies.below {w w' : World} {B : List (Nat × Obj)} (h : Lies w B) (hb : Bel w.heap.size w w') : Lies w' B := fun p hp => by
 have h1 := h p hp
 rw [hb.block p.1 (Array.getElem?_eq_some_iff.1 h1).1]
 exact h1
theorem refused_same {s : BankS} (hg : BGood s) {a : ActS} (hc : ¬ (doM s a).2.code = 0) : (doM s a).1.c = s.c ∧ (doM s a).1.ps = s.ps ∧ (doM s a).2.n = 0 ∧ (doM s a).2.done = [] ∧ (¬ (doM s a).2.code = 7 → (doM s a).1.text = s.text ∧ (doM s a).1.down = s.down) := by
 obtain ⟨log, lost, hb⟩ := hg
 obtain ⟨log', lost', st, _⟩ := hb.act a
 generalize (doM s a).1 = s' at st
 generalize (doM s a).2 = r at st hc
 cases st with
 | full h => exact ⟨rfl, rfl, rfl, rfl, fun _ => ⟨rfl, rfl⟩⟩
 | same r h1 h2 h3 h4 h5 h6 => exact ⟨rfl, rfl, h3, h4, fun _ => ⟨rfl, rfl⟩⟩
 | opened l h1 h2 h3 h4 => exact absurd rfl hc
 | failing h1 h2 h3 h4 => exact absurd rfl hc
 | fell m h1 h2 h3 h4 h5 h6 h7' h8 => exact ⟨rfl, rfl, rfl, rfl, fun h => absurd rfl h⟩
 | went h1 h2 h3 h4 h5 h6 h7' => exact absurd h6 hc
theorem next_close {c : H} {ps : List PayS} {a : ActS} (hg : goodB c ps = true) (h9 : a.kind = 9) : nextM c ps a = ⟨c, ps.map goneP, 0, cnt ps, []⟩ := by simp [nextM, hg, h9]
theorem close_do {s : BankS} (hg : BGood s) {a : ActS} (h9 : a.kind = 9) (hc : (doM s a).2.code = 0) : (doM s a).1.c = s.c ∧ (doM s a).1.ps = s.ps.map goneP ∧ (doM s a).2.n = cnt s.ps ∧ (doM s a).2.done = [] := by
 have e := next_close ((bgood_inv hg).1.good (by omega)) h9
 obtain ⟨log, lost, hb⟩ := hg
 obtain ⟨log', lost', st, _⟩ := hb.act a
 generalize (doM s a).1 = s' at st
 generalize (doM s a).2 = r at st hc
 cases st with
 | full h => cases hc
 | same r h1 h2 h3 h4 h5 h6 => exact absurd hc h2
 | opened l h1 h2 h3 h4 => omega
 | failing h1 h2 h3 h4 => omega
 | fell m h1 h2 h3 h4 h5 h6 h7' h8 => cases hc
 | went h1 h2 h3 h4 h5 h6 h7' => rw [e]; exact ⟨rfl, rfl, rfl, rfl⟩
theorem gone_sta (p : PayS) : (goneP p).sta ≠ 1 ∧ ((goneP p).sta = p.sta ↔ p.sta ≠ 1) := by
 unfold goneP
 by_cases h : p.sta = 1
 · simp [h]
 · simp [h]
theorem do_acts (s : BankS) (a : ActS) : (doM s a).1.acts = if s.acts = 200 then 200 else s.acts + 1 := by
 unfold doM
 by_cases h : s.acts = 200
 · simp [h]
 · rw [if_neg h]
   simp only [decide_eq_false h, cond_false, Bool.cond_eq_ite]
   repeat' split
   all_goals first | rfl | contradiction
theorem play_acts : ∀ (l : List ActS) (s : BankS), s.acts + l.length ≤ 200 → (playM s l).acts = s.acts + l.length
 | [], s, _ => rfl
 | a :: r, s, h => by
   simp only [List.length_cons] at h
   have e := do_acts s a
   rw [if_neg (by omega)] at e
   simp only [playM]
   rw [play_acts r _ (by omega), e]
   simp only [List.length_cons]
   omega
theorem new_acts (l : List ActS) (h : l.length ≤ 200) : (playM newB l).acts = l.length := by
 rw [play_acts l newB (by simpa [newB] using h)]
 simp [newB]
def closeA : ActS := ⟨9, 0, 0, 0, 0⟩
theorem close_yes {ps : List PayS} {k : Nat} {p : PayS} (h : ps[k]? = some p) (hs : ¬ (goneP p).sta = p.sta) : ((cnt (ps.take k) : Nat) : Int) + 1 = ((cnt (ps.take (k + 1)) : Nat) : Int) := by
 have h1 : p.sta = 1 := Classical.byContradiction fun h1 => hs ((gone_sta p).2.2 h1)
 unfold cnt
 rw [List.take_add_one, h, List.countP_append]
 simp [h1]
theorem close_no {ps : List PayS} {k : Nat} {p : PayS} (h : ps[k]? = some p) (hs : (goneP p).sta = p.sta) : cnt (ps.take k) = cnt (ps.take (k + 1)) := by
 have h1 := (gone_sta p).2.1 hs
 unfold cnt
 rw [List.take_add_one, h, List.countP_append]
 simp [h1]
theorem core_has {h k : H} (e : h.core = k.core) : accL h.has h.cred = accL k.has k.cred ∧ matL h.sent = matL k.sent := by
 have e1 : h.has = k.has := show h.core.has = k.core.has from (by rw [e])
 have e2 : h.cred = k.cred := show h.core.cred = k.core.cred from (by rw [e])
 have e3 : h.sent = k.sent := show h.core.sent = k.core.sent from (by rw [e])
 rw [e1, e2, e3]
 exact ⟨rfl, rfl⟩
theorem gone_at {ps : List PayS} {k : Nat} {p q : PayS} (hp : ps[k]? = some p) (hq : (ps.map goneP)[k]? = some q) : q = goneP p := by
 rw [List.getElem?_map, hp] at hq
 simpa using hq.symm
def Alike (s t : BankS) : Prop := s.c = t.c ∧ s.ps = t.ps ∧ s.text = t.text ∧ s.down = t.down
theorem Alike.refl (s : BankS) : Alike s s := ⟨rfl, rfl, rfl, rfl⟩
end Go.Proofs.Ytmkboljfbmlebab
namespace Go.Proofs.Ytmkboljfbmlebab
open Go.RowKit
set_option linter.unusedSimpArgs false
set_option linter.unusedVariables false
def failA : ActS := ⟨10, 0, 0, 0, 0⟩
def openA : ActS := ⟨11, 0, 0, 0, 0⟩
structure Like (t s : BankS) (n : Nat) : Prop where
 c : t.c = s.c
 ps : t.ps = s.ps
 up : t.down = false
 acts : t.acts ≤ s.acts + n
theorem open_do {s : BankS} (hd : s.down = true) (ha : s.acts < 200) : doM s openA = ({ s with acts := s.acts + 1, c := (replayM (readM s.text)).1, ps := (replayM (readM s.text)).2, text := bytesOf (readM s.text), down := false }, ⟨0, (readM s.text).length, []⟩) := by
 have h : ¬ s.acts = 200 := by omega
 simp [doM, h, openA, hd]
theorem fail_do {s : BankS} (hd : s.down = false) (ha : s.acts < 200) : doM s failA = ({ s with acts := s.acts + 1, fail := 0 }, errR 0) := by
 have h : ¬ s.acts = 200 := by omega
 have hw : withinB 0 0 4000 = true := by decide
 simp [doM, h, failA, hd, hw]
theorem noted_close : noted closeA = true := by decide
theorem book_round {s : BankS} (hg : BGood s) (hd : s.down = false) (ha : s.acts ≤ 190) :
   ((doM (doM s failA).1 closeA).2.code = 7 ∧ (doM (doM s failA).1 closeA).1.down = true ∧ (doM (doM (doM s failA).1 closeA).1 openA).2.code = 0 ∧ Like (doM (doM (doM s failA).1 closeA).1 openA).1 s 3) ∨
   ((doM (doM s failA).1 closeA).2.code = 5 ∧ Like (doM (doM s failA).1 closeA).1 s 2) := by
 rw [fail_do hd (by omega)]
 have hgood := (bgood_inv hg).1.good (by omega)
 obtain ⟨log, lost, hb⟩ := hg
 obtain ⟨ht, _⟩ := hb.inv.up hd
 have hn := next_close (c := s.c) (ps := s.ps) hgood (a := closeA) rfl
 have h2 : ¬ s.acts + 1 = 200 := by omega
 have k11 : decide (closeA.kind = 11) = false := by decide
 have k10 : decide (closeA.kind = 10) = false := by decide
 have z0 : decide ((0 : Int) = 0) = true := by decide
 have z1 : decide ((0 : Int) ≤ 0) = true := by decide
 have z2 : (0 : Int).toNat = 0 := rfl
 by_cases hl : 4000 < s.text.length + (frameOf closeA).length
 · right
   have e : doM { s with acts := s.acts + 1, fail := 0 } closeA = ({ s with acts := s.acts + 1 + 1, fail := 0 }, errR 5) := by
     unfold doM
     simp only [hn, noted_close, k11, k10, hd, h2, hl, z0, decide_true, decide_false, cond_true, cond_false, Bool.not_true, Bool.not_false]
   rw [e]
   exact ⟨rfl, rfl, rfl, hd, by simp only; omega⟩
 · left
   have e : doM { s with acts := s.acts + 1, fail := 0 } closeA = ({ s with acts := s.acts + 1 + 1, text := s.text ++ (frameOf closeA).take 0, down := true, fail := -1 }, errR 7) := by
     unfold doM
     simp only [hn, noted_close, k11, k10, hd, h2, hl, z0, z1, z2, decide_true, decide_false, cond_true, cond_false, Bool.not_true, Bool.not_false]
   rw [e]
   have hr : readM (s.text ++ (frameOf closeA).take 0) = log := by
     rw [List.take_zero, List.append_nil, ht]
     exact readM_self hb.inv.noted
   refine ⟨rfl, rfl, ?_, ?_⟩
   · rw [open_do rfl (by simp only; omega)]
   · rw [open_do rfl (by simp only; omega)]
     have hh := hb.inv.house
     refine ⟨?_, ?_, rfl, by simp only; omega⟩
     · simp only; rw [hr, ← hh]
     · simp only; rw [hr, ← hh]
theorem first_open {s : BankS} (hd : s.down = true) (ha : s.acts < 200) : (doM s openA).1.down = false ∧ (doM s openA).1.acts = s.acts + 1 := by
 rw [open_do hd ha]; exact ⟨rfl, rfl⟩
theorem Like.trans {t s r : BankS} {n m : Nat} (a : Like t s n) (b : Like s r m) : Like t r (n + m) := ⟨a.c.trans b.c, a.ps.trans b.ps, a.up, by have := a.acts; have := b.acts; omega⟩
theorem Like.mono {t s : BankS} {n m : Nat} (a : Like t s n) (h : n ≤ m) : Like t s m := ⟨a.c, a.ps, a.up, by have := a.acts; omega⟩
structure BkG where
 k : Nat
 F : Addr → Value → Prop
 s : BankS
 B : List (Nat × Obj)
end Go.Proofs.Ytmkboljfbmlebab
namespace Go.Proofs.Ytmkboljfbmlebab
open Go.RowKit
set_option linter.unusedSimpArgs false
set_option linter.unusedVariables false
def lostL : Option (ActS × Nat) → List ActS
 | none => []
 | some (x, _) => [x]
def Cr (s : BankS) (log lo : List ActS) : Prop := ∃ lost, BOk s log lost ∧ lo = lostL lost
theorem cr_new : Cr newB [] [] := ⟨none, bok_new, rfl⟩
theorem Cr.len {s : BankS} {log lo : List ActS} (h : Cr s log lo) : log.length ≤ 200 ∧ lo.length ≤ 1 := by
 obtain ⟨lost, hb, rfl⟩ := h
 have h1 := hb.count
 have h2 := hb.acts
 refine ⟨by omega, ?_⟩
 cases lost with
 | none => simp [lostL]
 | some p => simp [lostL]
theorem Cr.lost {s : BankS} {log lo : List ActS} (h : Cr s log lo) : (s.down = false → lo = []) ∧ (s.down = true → ∃ x, lo = [x]) := by
 obtain ⟨lost, hb, rfl⟩ := h
 refine ⟨fun hd => by rw [(hb.inv.up hd).2]; rfl, fun hd => ?_⟩
 obtain ⟨a, m, e, _⟩ := hb.inv.low hd
 rw [e]; exact ⟨a, rfl⟩
theorem crash_open {s : BankS} {log lo : List ActS} (h : Cr s log lo) (ha : s.acts < 200) {a : ActS} (hk : a.kind = 11) (hc : (doM s a).2.code = 0) :
   ∃ log', (log' = log ∨ log' = log ++ lo) ∧ (doM s a).2.n = log'.length ∧ (doM s a).1.c = (replayM log').1 ∧ (doM s a).1.ps = (replayM log').2 ∧ (doM s a).1.down = false ∧ Cr (doM s a).1 log' [] := by
 obtain ⟨lost, hb, rfl⟩ := h
 obtain ⟨log', lost', st, hb'⟩ := hb.act a
 generalize (doM s a).1 = s' at st hb' ⊢
 generalize (doM s a).2 = r at st hc ⊢
 cases st with
 | full h => omega
 | same r h1 h2 h3 h4 h5 h6 => exact absurd hc h2
 | opened l h1 h2 h3 h4 =>
   obtain ⟨x, m, e, _⟩ := hb.inv.low h2
   subst e
   exact ⟨log', h4 x m rfl, rfl, rfl, rfl, rfl, none, hb', rfl⟩
 | failing h1 h2 h3 h4 => omega
 | fell m h1 h2 h3 h4 h5 h6 h7' h8 => exact absurd hk h4
 | went h1 h2 h3 h4 h5 h6 h7' => exact absurd hk h4
theorem crash_stay {s : BankS} {log lo : List ActS} (h : Cr s log lo) {a : ActS} (hk : a.kind = 10 ∨ (a.kind = 11 ∧ ¬ (doM s a).2.code = 0)) : Cr (doM s a).1 log lo := by
 obtain ⟨lost, hb, rfl⟩ := h
 obtain ⟨log', lost', st, hb'⟩ := hb.act a
 generalize (doM s a).1 = s' at st hb' ⊢
 generalize (doM s a).2 = r at st hk
 cases st with
 | full h => exact ⟨lost, hb', rfl⟩
 | same r h1 h2 h3 h4 h5 h6 => exact ⟨lost, hb', rfl⟩
 | opened l h1 h2 h3 h4 => rcases hk with hk | hk; omega; exact absurd rfl hk.2
 | failing h1 h2 h3 h4 => exact ⟨lost, hb', rfl⟩
 | fell m h1 h2 h3 h4 h5 h6 h7' h8 => rcases hk with hk | hk; exact absurd hk h3; exact absurd hk.1 h4
 | went h1 h2 h3 h4 h5 h6 h7' => rcases hk with hk | hk; exact absurd hk h3; exact absurd hk.1 h4
theorem crash_down {s : BankS} {log lo : List ActS} (h : Cr s log lo) (ha : s.acts < 200) {a : ActS} (h10 : ¬ a.kind = 10) (h11 : ¬ a.kind = 11) (hc : (doM s a).2.code = 7) :
   (doM s a).1.down = true ∧ ((lo = [] ∧ Cr (doM s a).1 log [a]) ∨ (¬ lo = [] ∧ Cr (doM s a).1 log lo)) := by
 obtain ⟨lost, hb, rfl⟩ := h
 obtain ⟨log', lost', st, hb'⟩ := hb.act a
 generalize (doM s a).1 = s' at st hb' ⊢
 generalize (doM s a).2 = r at st hc
 cases st with
 | full h => omega
 | same r h1 h2 h3 h4 h5 h6 =>
   have hd := h5.1 hc
   obtain ⟨x, m, e, _⟩ := hb.inv.low hd
   subst e
   exact ⟨hd, .inr ⟨by simp [lostL], _, hb', rfl⟩⟩
 | opened l h1 h2 h3 h4 => exact absurd h3 h11
 | failing h1 h2 h3 h4 => exact absurd h3 h10
 | fell m h1 h2 h3 h4 h5 h6 h7' h8 =>
   have := (hb.inv.up h2).2
   subst this
   exact ⟨rfl, .inl ⟨rfl, _, hb', rfl⟩⟩
 | went h1 h2 h3 h4 h5 h6 h7' => rw [show (NR.rep _).code = _ from h6] at hc; cases hc
theorem crash_went {s : BankS} {log lo : List ActS} (h : Cr s log lo) (ha : s.acts < 200) {a : ActS} (h10 : ¬ a.kind = 10) (h11 : ¬ a.kind = 11) (hc : (doM s a).2.code = 0) :
   (doM s a).1.down = false ∧ Cr (doM s a).1 (log ++ [a]) [] := by
 obtain ⟨lost, hb, rfl⟩ := h
 obtain ⟨log', lost', st, hb'⟩ := hb.act a
 generalize (doM s a).1 = s' at st hb' ⊢
 generalize (doM s a).2 = r at st hc
 cases st with
 | full h => omega
 | same r h1 h2 h3 h4 h5 h6 => exact absurd hc h2
 | opened l h1 h2 h3 h4 => exact absurd h3 h11
 | failing h1 h2 h3 h4 => exact absurd h3 h10
 | fell m h1 h2 h3 h4 h5 h6 h7' h8 => cases hc
 | went h1 h2 h3 h4 h5 h6 h7' => exact ⟨h2, _, hb', rfl⟩
theorem crash_no {s : BankS} {log lo : List ActS} (h : Cr s log lo) (ha : s.acts < 200) {a : ActS} (h10 : ¬ a.kind = 10) (h11 : ¬ a.kind = 11) (hc : ¬ (doM s a).2.code = 0) (h7 : ¬ (doM s a).2.code = 7) :
   (doM s a).1.down = false ∧ Cr (doM s a).1 log lo := by
 obtain ⟨lost, hb, rfl⟩ := h
 obtain ⟨log', lost', st, hb'⟩ := hb.act a
 generalize (doM s a).1 = s' at st hb' ⊢
 generalize (doM s a).2 = r at st hc h7
 cases st with
 | full h => omega
 | same r h1 h2 h3 h4 h5 h6 =>
   refine ⟨?_, _, hb', rfl⟩
   cases hd : s.down with
   | false => rfl
   | true => exact absurd (h5.2 hd) h7
 | opened l h1 h2 h3 h4 => exact absurd h3 h11
 | failing h1 h2 h3 h4 => exact absurd h3 h10
 | fell m h1 h2 h3 h4 h5 h6 h7' h8 => exact absurd rfl h7
 | went h1 h2 h3 h4 h5 h6 h7' => exact absurd h6 hc
theorem flatA_snoc (xs : List ActS) (x : ActS) : flatA (xs ++ [x]) = flatA xs ++ x.cells.toList := by simp [flatA]
section
variable {P : Program} {ops : Array Oper} {K : (Nat → Value) → World → Prop} {rest : List Oper} {f : Nat → Value} {d : Nat} {ty : TypeId} {pos : String} {af : Array Edge} {w0 : World} {F : Addr → Value → Prop} {E L : List (Nat × Obj)}
theorem s_pushAct {T e by_ n c : Nat} {ats : Array TypeId} {x y : Operand} {v : Value} {xs : List Value} {a : Option Addr} {z : ActS} (hT : rowB P T e 5 by_ = true) (hbb : Nat.ble 1 by_ = true) (hat : ats = #[T, T])
   (hx : ev f x = v) (hy : ev f y = .slice a 1 c) (hE : ListE e 5 v n xs E) (hi : ActsAt F a [z]) (hbytes : (n + 1) * by_ ≤ 140737488355328)
   (kk : ∀ v' E', ListE e 5 v' (n + 1) (xs ++ z.cells.toList) E' → sC P ops K rest (upd f d v') (Has w0 F (E' ++ L))) :
   sC P ops K (⟨some d, .call ⟨.builtin .append, #[x, y], ats⟩, ty, pos, af, none⟩ :: rest) f (Has w0 F (E ++ L)) := by
 intro w hw
 subst hat
 unfold sw
 rw [if_pos wanted_free]
 unfold opk
 obtain ⟨b, o, rfl, hF⟩ := hi.resolve_left (by simp)
 obtain ⟨v', E', w', hr, hE', hw'⟩ := run_appendE (P := P) (w0 := w0) (F := F) (L := L) (c := c) (ty := ty) (b := b) (o := o) (mm := 1) (news := z.cells.toList) hT (by decide) hE hw (by simp [ActS.cells]) (fun j u hj => by
   have h0 : w.cell? ⟨b, o + 0 * 5 + j, none⟩ = some u := hw.at _ _ (hF 0 z rfl j u (by simpa using hj))
   simpa using h0) (fun u hu => by
   simp [ActS.cells] at hu
   rcases hu with rfl | rfl | rfl | rfl | rfl <;> rfl) (by simp) hbytes (Nat.le_of_ble_eq_true hbb)
 have : (execOp (ev f) ⟨some d, .call ⟨.builtin .append, #[x, y], #[T, T]⟩, ty, pos, af, none⟩).run P w = .ok (.value v') w' := by
   simp [execOp, resolve, invoke, builtin, hx, hy, hr]
 rw [this]
 exact kk v' E' hE' w' hw'
end
theorem perm_last {α : Type} (A B : List α) (x y : α) (K : List α) : (A ++ (B ++ (x :: y :: K))).Perm (B ++ (x :: y :: (A ++ K))) := by
 refine (perm_front (A := A) (E := B) (B := x :: y :: K)).trans (List.Perm.append_left B ?_)
 exact List.perm_middle.trans (List.Perm.cons _ List.perm_middle)
theorem list_acts {F : Addr → Value → Prop} {e n c : Nat} {a : Option Addr} {xs : List ActS} {E : List (Nat × Obj)} (h : ListE e 5 (.slice a n c) xs.length (flatA xs) E) (hk : Knows F E) : ActsAt F a xs := by
 obtain ⟨a', c', hv, hi⟩ := (acts_of_list h hk).at
 simp only [Value.slice.injEq] at hv
 rw [hv.1]; exact hi
structure CrG where
 vd : Value
 vl : Value
 E : List (Nat × Obj)
 log : List ActS
 lo : List ActS
def crJ (s : BankS) (k : CrG) (F : Addr → Value → Prop) : Prop :=
 Cr s k.log k.lo ∧ (∃ ad cd, k.vd = .slice ad k.log.length cd) ∧ ListE 23 5 k.vd k.log.length (flatA k.log) k.E ∧ ∃ al cl, k.vl = .slice al k.lo.length cl ∧ ActsAt F al k.lo
theorem crJ_mono {s : BankS} {k : CrG} {F F' : Addr → Value → Prop} (h : crJ s k F) (hm : More F F') : crJ s k F' := by
 obtain ⟨h1, h2, h3, al, cl, h4, h5⟩ := h
 exact ⟨h1, h2, h3, al, cl, h4, h5.mono hm⟩
theorem act_known {F : Addr → Value → Prop} {b t : Nat} {x : ActS} (hk : Knows F [(b, .cells x.cells t (0, 0))]) : ActsAt F (some ⟨b, 0, none⟩) [x] := .inr ⟨b, 0, rfl, fun j y hj k v hv => by
 cases j with
 | zero =>
   simp at hj; subst hj
   have := hk b x.cells t (0, 0) (by simp) k v hv
   simpa using this
 | succ j => simp at hj⟩
end Go.Proofs.Ytmkboljfbmlebab
namespace Go.Proofs.Ytmkboljfbmlebab
open Go.RowKit
set_option linter.unusedSimpArgs false
set_option linter.unusedVariables false
theorem told_do {s : BankS} (hg : BGood s) {a : ActS} (h11 : ¬ a.kind = 11) : Told s.ps (doM s a).1.ps (doM s a).2.done := by
 have v := (bgood_inv hg).1
 obtain ⟨log, lost, hb⟩ := hg
 obtain ⟨log', lost', st, _⟩ := hb.act a
 have same : Told s.ps s.ps [] := told_same (ps := s.ps) (xs := []) trivial
 generalize (doM s a).1 = s' at st
 generalize (doM s a).2 = r at st
 cases st with
 | full h => exact same
 | same r h1 h2 h3 h4 h5 h6 => rw [h4]; exact same
 | opened l h1 h2 h3 h4 => exact absurd h3 h11
 | failing h1 h2 h3 h4 => exact same
 | fell m h1 h2 h3 h4 h5 h6 h7' h8 => exact same
 | went h1 h2 h3 h4 h5 h6 h7' => exact told_act v (by omega) (next_step s.c s.ps a)
def nowTo (d : List Int) : Nat → Nat
 | 0 => 0
 | k + 1 => nowTo d k + if (k : Int) ∈ d then 1 else 0
theorem now_le (d : List Int) : ∀ k, nowTo d k ≤ k
 | 0 => Nat.le_refl _
 | k + 1 => by
   have := now_le d k
   simp only [nowTo]
   split <;> omega
theorem now_yes {d : List Int} {k : Nat} (h : (k : Int) ∈ d) : ((nowTo d k : Nat) : Int) + 1 = ((nowTo d (k + 1) : Nat) : Int) := by
 simp only [nowTo, if_pos h]; omega
theorem now_no {d : List Int} {k : Nat} (h : ¬ (k : Int) ∈ d) : nowTo d k = nowTo d (k + 1) := by
 simp only [nowTo, if_neg h]; omega
theorem now_nil : ∀ k, nowTo [] k = 0
 | 0 => rfl
 | k + 1 => by simp [nowTo, now_nil k]
theorem now_cons {i : Int} {d : List Int} (hn : i ∉ d) (h0 : 0 ≤ i) : ∀ k : Nat, nowTo (i :: d) k = nowTo d k + if i < k then 1 else 0
 | 0 => by simp [nowTo]; omega
 | k + 1 => by
   simp only [nowTo]
   rw [now_cons hn h0 k]
   by_cases e : (k : Int) = i
   · have h1 : (k : Int) ∈ i :: d := by simp [e]
     have h2 : ¬ (k : Int) ∈ d := by rw [e]; exact hn
     rw [if_pos h1, if_neg h2, if_neg (by omega), if_pos (by omega)]
   · have h1 : ((k : Int) ∈ i :: d) ↔ (k : Int) ∈ d := by simp [e]
     by_cases h3 : (k : Int) ∈ d
     · rw [if_pos (h1.2 h3), if_pos h3]
       by_cases h4 : i < k
       · rw [if_pos h4, if_pos (by omega)]
         try omega
       · rw [if_neg h4, if_neg (by omega)]
     · rw [if_neg (fun h => h3 (h1.1 h)), if_neg h3]
       by_cases h4 : i < k
       · rw [if_pos h4, if_pos (by omega)]
       · rw [if_neg h4, if_neg (by omega)]
theorem now_all : ∀ (d : List Int) (n : Nat), d.Nodup → (∀ i ∈ d, 0 ≤ i ∧ i < n) → nowTo d n = d.length
 | [], n, _, _ => now_nil n
 | i :: r, n, hn, hr => by
   obtain ⟨h1, h2⟩ := List.nodup_cons.1 hn
   have hi := hr i (by simp)
   rw [now_cons h1 hi.1, now_all r n h2 (fun j hj => hr j (by simp [hj])), if_pos hi.2]
   rfl
theorem told_len {ps ps' : List PayS} {d : List Int} (t : Told ps ps' d) : d.length ≤ ps'.length := by
 rw [← now_all d ps'.length t.once (fun i hi => t.range i hi)]
 exact now_le _ _
def timesTo (d : List Int) (k : Nat) : Nat → Nat
 | 0 => 0
 | j + 1 => timesTo d k j + match d[j]? with | some y => (if y = (k : Int) then 1 else 0) | none => 0
theorem times_le (d : List Int) (k : Nat) : ∀ j, timesTo d k j ≤ j
 | 0 => Nat.le_refl _
 | j + 1 => by
   have := times_le d k j
   simp only [timesTo]
   split
   · split <;> omega
   · omega
theorem times_yes {d : List Int} {k j : Nat} {y : Int} (h : d[j]? = some y) (e : y = (k : Int)) : ((timesTo d k j : Nat) : Int) + 1 = ((timesTo d k (j + 1) : Nat) : Int) := by
 simp only [timesTo, h, if_pos e]; omega
theorem times_no {d : List Int} {k j : Nat} {y : Int} (h : d[j]? = some y) (e : ¬ y = (k : Int)) : timesTo d k j = timesTo d k (j + 1) := by
 simp only [timesTo, h, if_neg e]; omega
theorem times_take (d : List Int) (k : Nat) : ∀ j, timesTo d k j = (d.take j).count (k : Int)
 | 0 => by simp [timesTo]
 | j + 1 => by
   simp only [timesTo]
   rw [times_take d k j, List.take_add_one, List.count_append]
   cases d[j]? with
   | none => simp
   | some y => simp [List.count_cons]
theorem times_all {d : List Int} (hn : d.Nodup) (k : Nat) {j : Nat} (hj : d.length ≤ j) : timesTo d k j = if (k : Int) ∈ d then 1 else 0 := by
 rw [times_take, List.take_of_length_le hj]
 split
 · rename_i h; exact hn.count ▸ (by rw [if_pos h])
 · rename_i h; exact List.count_eq_zero.2 h
theorem now_a {ps ps' : List PayS} {d : List Int} (t : Told ps ps' d) {k : Nat} {q : PayS} (hq : ps'[k]? = some q) (h : ¬ q.sta = 2) : false = decide ((k : Int) ∈ d) :=
 (decide_eq_false fun hm => h ((t.tells k q hq).1 hm).1).symm
theorem now_b {ps ps' : List PayS} {d : List Int} (t : Told ps ps' d) {k : Nat} {q : PayS} (hq : ps'[k]? = some q) (h : q.sta = 2) (hn : ps.length ≤ k) : true = decide ((k : Int) ∈ d) :=
 (decide_eq_true ((t.tells k q hq).2 ⟨h, fun p hp => by have := (List.getElem?_eq_some_iff.1 hp).1; omega⟩)).symm
theorem now_c {ps ps' : List PayS} {d : List Int} (t : Told ps ps' d) {k : Nat} {p q : PayS} (hq : ps'[k]? = some q) (h : q.sta = 2) (hp : ps[k]? = some p) : (!decide (p.sta = 2)) = decide ((k : Int) ∈ d) := by
 have e := t.tells k q hq
 by_cases h2 : p.sta = 2
 · rw [decide_eq_true h2, decide_eq_false (fun hm => (e.1 hm).2 p hp h2)]; rfl
 · rw [decide_eq_false h2, decide_eq_true (e.2 ⟨h, fun p' hp' => by rw [hp] at hp'; simp at hp'; subst hp'; exact h2⟩)]; rfl
theorem told_stays {ps ps' : List PayS} {d : List Int} (t : Told ps ps' d) {k : Nat} {p q : PayS} (hq : ps'[k]? = some q) (hp : ps[k]? = some p) (h : ¬ p.sta = 1) : p.sta = q.sta := by
 obtain ⟨q', h1, h2⟩ := t.stays k p hp
 rw [hq] at h1; simp at h1; subst h1
 exact (h2 h).symm
theorem told_eq {d : List Int} {k n : Nat} (ht : n = if (k : Int) ∈ d then 1 else 0) : (decide ((k : Int) ∈ d) == decide ((n : Int) = 1)) = true := by
 subst ht
 split <;> simp_all
end Go.Proofs.Ytmkboljfbmlebab
namespace Go.Proofs.Ytmkboljfbmlebab
open Go.RowKit
set_option linter.unusedSimpArgs false
set_option linter.unusedVariables false
theorem flatA_length (xs : List ActS) : (flatA xs).length = xs.length * 5 := by
 induction xs with
 | nil => rfl
 | cons x r ih =>
   show (x.cells.toList ++ flatA r).length = _
   rw [List.length_append, ih]
   simp [ActS.cells]
   omega
theorem flatA_inv : ∀ (xs : List ActS) (j : Nat) (u : Value), (flatA xs)[j]? = some u → ∃ x, xs[j / 5]? = some x ∧ x.cells[j % 5]? = some u
 | [], j, u, h => by simp [flatA] at h
 | x :: r, j, u, h => by
   have e : flatA (x :: r) = x.cells.toList ++ flatA r := rfl
   have h5 : x.cells.toList.length = 5 := rfl
   rw [e] at h
   by_cases hj : j < 5
   · rw [List.getElem?_append_left (by omega)] at h
     exact ⟨x, by rw [Nat.div_eq_of_lt hj]; rfl, by rw [Nat.mod_eq_of_lt hj]; simpa using h⟩
   · rw [List.getElem?_append_right (by omega), h5] at h
     obtain ⟨y, h1, h2⟩ := flatA_inv r (j - 5) u h
     have e1 : j / 5 = (j - 5) / 5 + 1 := by omega
     have e2 : (j - 5) % 5 = j % 5 := by omega
     exact ⟨y, by rw [e1]; simpa using h1, by rw [← e2]; exact h2⟩
section
variable {P : Program} {ops : Array Oper} {K : (Nat → Value) → World → Prop} {rest : List Oper} {f : Nat → Value} {d : Nat} {ty : TypeId} {pos : String} {af : Array Edge} {w0 : World} {F : Addr → Value → Prop} {E L : List (Nat × Obj)}
theorem s_copyActs {T e by_ c n : Nat} {ats : Array TypeId} {x y : Operand} {a : Option Addr} {zs : List ActS} (hT : rowB P T e 5 by_ = true) (hbb : Nat.ble 1 by_ = true) (hat : ats = #[T, T])
   (hx : ev f x = .slice none 0 0) (hy : ev f y = .slice a n c) (hn : zs.length = n) (hp : ActsAt F a zs) (hbytes : n * by_ ≤ 140737488355328)
   (kk : ∀ v' E', ListE e 5 v' zs.length (flatA zs) E' → sC P ops K rest (upd f d v') (Has w0 F (E' ++ L))) :
   sC P ops K (⟨some d, .call ⟨.builtin .append, #[x, y], ats⟩, ty, pos, af, none⟩ :: rest) f (Has w0 F L) := by
 intro w hw
 subst hat
 subst hn
 unfold sw
 rw [if_pos wanted_free]
 unfold opk
 have hrun : ∀ v' w', (Builtin.append_ #[T, T] ty #[.slice none 0 0, .slice a zs.length c]).run P w = .ok v' w' → (execOp (ev f) ⟨some d, .call ⟨.builtin .append, #[x, y], #[T, T]⟩, ty, pos, af, none⟩).run P w = .ok (.value v') w' := by
   intro v' w' hr
   simp [execOp, resolve, invoke, builtin, hx, hy, hr]
 rcases hp with h0 | ⟨b, o, rfl, hF⟩
 · subst h0
   obtain ⟨i, z, hu, hii, hs, hby, hz, hzs⟩ := rowB_spec hT
   have hsz : ∀ w, (sizeOf e).run P w = .ok 5 w := fun w => by simp [sizeOf, typeInfo, hii, hs]
   have : (Builtin.append_ #[T, T] ty #[.slice none 0 0, .slice a 0 c]).run P w = .ok (.slice none 0 0) w := by
     cases a <;> simp [Builtin.append_, underlying, hu, hsz, Builtin.lenOf, Builtin.firstCells, loadCells, loadCellsFrom]
   rw [hrun _ _ this]
   exact kk _ [] (listE_nil e 5) w hw
 · by_cases hz0 : zs = []
   · subst hz0
     obtain ⟨i, z, hu, hii, hs, hby, hz, hzs⟩ := rowB_spec hT
     have hsz : ∀ w, (sizeOf e).run P w = .ok 5 w := fun w => by simp [sizeOf, typeInfo, hii, hs]
     have : (Builtin.append_ #[T, T] ty #[.slice none 0 0, .slice (some ⟨b, o, none⟩) 0 c]).run P w = .ok (.slice none 0 0) w := by
       simp [Builtin.append_, underlying, hu, hsz, Builtin.lenOf, Builtin.firstCells, loadCells, loadCellsFrom]
     rw [hrun _ _ this]
     exact kk _ [] (listE_nil e 5) w hw
   · have hpos : 0 < zs.length := List.length_pos_iff.2 hz0
     obtain ⟨v', E', w', hr, hE', hw'⟩ := run_appendE (P := P) (w0 := w0) (F := F) (L := L) (E := []) (c := c) (ty := ty) (b := b) (o := o) (mm := zs.length) (news := flatA zs) hT (by decide) (listE_nil e 5) hw (flatA_length zs) (fun j u hj => by
       obtain ⟨p, h1, h2⟩ := flatA_inv zs j u hj
       have h3 : w.cell? ⟨b, o + j / 5 * 5 + j % 5, none⟩ = some u := hw.at _ _ (hF (j / 5) p h1 (j % 5) u h2)
       have e : o + j / 5 * 5 + j % 5 = o + j := by omega
       rw [e] at h3
       exact h3) (fun u hu => by
       obtain ⟨p, _, hp⟩ := List.mem_flatMap.1 hu
       have := ActS.all1 p
       rw [Array.all_eq_true_iff_forall_mem] at this
       exact this u (by simpa using hp)) hpos (by simpa using hbytes) (Nat.le_of_ble_eq_true hbb)
     rw [hrun _ _ hr]
     exact kk v' E' (by simpa using hE') w' hw'
end
theorem ActsAt.take {F : Addr → Value → Prop} {a : Option Addr} {xs : List ActS} (h : ActsAt F a xs) (k : Nat) : ActsAt F a (xs.take k) := by
 rcases h with rfl | ⟨b, o, h1, h2⟩
 · exact .inl (by simp)
 · refine .inr ⟨b, o, h1, fun j x hj => h2 j x ?_⟩
   rw [List.getElem?_take] at hj
   split at hj
   · exact hj
   · cases hj
theorem sameRB_self (c n : Int) (xs : List Int) : sameRB c n xs c n xs = true := by simp [sameRB]
noncomputable def repsM (s : BankS) : List ActS → List RepS
 | [] => []
 | a :: r => (doM s a).2 :: repsM (doM s a).1 r
theorem reps_len : ∀ (l : List ActS) (s : BankS), (repsM s l).length = l.length
 | [], _ => rfl
 | a :: r, s => by simp [repsM, reps_len r]
theorem reps_take : ∀ (l : List ActS) (s : BankS) (k : Nat), repsM s (l.take k) = (repsM s l).take k
 | [], s, k => by simp [repsM]
 | a :: r, s, 0 => by simp [repsM]
 | a :: r, s, k + 1 => by simp [repsM, reps_take r]
def RepsAt (F : Addr → Value → Prop) (a : Option Addr) (rs : List RepS) : Prop := rs = [] ∨ ∃ b o, a = some ⟨b, o, none⟩ ∧ ∀ (j : Nat) (r : RepS), rs[j]? = some r → ∃ a1 c1, IntsAt F a1 r.done ∧ ∀ (k : Nat) (v : Value), (repC r.code r.n (.slice a1 r.done.length c1))[k]? = some v → F ⟨b, o + j * 3 + k, none⟩ v
theorem RepsAt.mono {F F' : Addr → Value → Prop} {a : Option Addr} {rs : List RepS} (h : RepsAt F a rs) (hm : More F F') : RepsAt F' a rs := by
 rcases h with h | ⟨b, o, h1, h2⟩
 · exact .inl h
 · refine .inr ⟨b, o, h1, fun j r hr => ?_⟩
   obtain ⟨a1, c1, h3, h4⟩ := h2 j r hr
   exact ⟨a1, c1, h3.mono hm, fun k v hv => hm _ _ (h4 k v hv)⟩
theorem RepsAt.get {F : Addr → Value → Prop} {a : Option Addr} {rs : List RepS} (h : RepsAt F a rs) {j : Nat} (hj : j < rs.length) : ∃ b o r a1 c1, a = some ⟨b, o, none⟩ ∧ rs[j]? = some r ∧ IntsAt F a1 r.done ∧ ∀ (k : Nat) (v : Value), (repC r.code r.n (.slice a1 r.done.length c1))[k]? = some v → F ⟨b, o + j * 3 + k, none⟩ v := by
 rcases h with rfl | ⟨b, o, h1, h2⟩
 · simp at hj
 · obtain ⟨a1, c1, h3, h4⟩ := h2 j rs[j] (by simp [hj])
   exact ⟨b, o, rs[j], a1, c1, h1, by simp [hj], h3, h4⟩
def RunF (l : List ActS) (F : Addr → Value → Prop) (v : Value) : Prop := ∃ a c, v = .tuple #[.slice a l.length c, I 0] ∧ RepsAt F a (repsM newB l)
theorem runF_mono (l : List ActS) : Mono (RunF l) := by
 rintro F F' v hm ⟨a, c, h1, h2⟩
 exact ⟨a, c, h1, h2.mono hm⟩
theorem reps_done {l : List ActS} {j : Nat} {r : RepS} : ∀ {s : BankS}, BGood s → (repsM s l)[j]? = some r → r.done.length ≤ 24 := by
 induction l generalizing j with
 | nil => intro s _ h; simp [repsM] at h
 | cons a l ih =>
   intro s hg h
   cases j with
   | zero =>
     simp [repsM] at h
     subst h
     by_cases hk : a.kind = 11
     · obtain ⟨log, lost, hb⟩ := hg
       obtain ⟨log', lost', st, _⟩ := hb.act a
       generalize (doM s a).1 = s' at st
       generalize (doM s a).2 = r at st
       cases st with
       | full h => simp [errR]
       | same r h1 h2 h3 h4 h5 h6 => rw [h4]; simp
       | opened l h1 h2 h3 h4 => simp
       | failing h1 h2 h3 h4 => simp [errR]
       | fell m h1 h2 h3 h4 h5 h6 h7' h8 => simp [errR]
       | went h1 h2 h3 h4 h5 h6 h7' => exact absurd hk h4
     · have t := told_len (told_do hg hk)
       have := (bgood_inv (hg.act a)).1.len
       omega
   | succ j =>
     simp [repsM] at h
     exact ih (hg.act a) h
theorem rem_range {k : Int} {n : Nat} (hn : n ≤ 80) : 0 ≤ ((k.tmod ((n : Int) + 1)) + n + 1).tmod ((n : Int) + 1) ∧ ((k.tmod ((n : Int) + 1)) + n + 1).tmod ((n : Int) + 1) ≤ n ∧ -(n : Int) ≤ k.tmod ((n : Int) + 1) ∧ k.tmod ((n : Int) + 1) ≤ n := by
 have hp : (0 : Int) < (n : Int) + 1 := by omega
 have h1 : -((n : Int) + 1) < k.tmod ((n : Int) + 1) ∧ k.tmod ((n : Int) + 1) < (n : Int) + 1 := by
   refine ⟨?_, Int.tmod_lt_of_pos _ hp⟩
   have := Int.lt_tmod_of_pos k hp
   omega
 have h2 : 0 ≤ k.tmod ((n : Int) + 1) + n + 1 := by omega
 exact ⟨Int.tmod_nonneg _ h2, by have := Int.tmod_lt_of_pos (k.tmod ((n : Int) + 1) + n + 1) hp; omega, by omega, by omega⟩
end Go.Proofs.Ytmkboljfbmlebab
namespace Go.Proofs.Ytmkboljfbmlebab
open Go.RowKit
set_option linter.unusedSimpArgs false
set_option linter.unusedVariables false
theorem s_forgetY {P : Program} {ops : Array Oper} {K : (Nat → Value) → World → Prop} {rest : List Oper} {f : Nat → Value} {w0 : World} {F : Addr → Value → Prop} {E L : List (Nat × Obj)} (kk : ∀ F', More F F' → Knows (Young w0 F') E → sC P ops K rest f (Has w0 F' L)) : sC P ops K rest f (Has w0 F (E ++ L)) :=
 fun w hw => kk (Out L w) hw.forget.2.1 (knowsY hw) w hw.forget.1
theorem reps_atD : ∀ (xs : List ActS) (s : BankS) (i : Nat) (x : ActS), xs[i]? = some x → (repsM s xs)[i]? = some (doM (playM s (xs.take i)) x).2
 | [], _, _, _, h => by simp at h
 | y :: r, s, 0, x, h => by simp at h; subst h; simp [repsM, playM]
 | y :: r, s, i + 1, x, h => by
   simp only [List.getElem?_cons_succ] at h
   simp only [repsM, List.getElem?_cons_succ, List.take_succ_cons]
   rw [reps_atD r (doM s y).1 i x h]
   rfl
theorem play_snocD : ∀ (l : List ActS) (s : BankS) (a : ActS), playM s (l ++ [a]) = (doM (playM s l) a).1
 | [], s, a => rfl
 | y :: r, s, a => play_snocD r (doM s y).1 a
theorem play_takeD {xs : List ActS} {k : Nat} {x : ActS} (h : xs[k]? = some x) (s : BankS) : playM s (xs.take (k + 1)) = (doM (playM s (xs.take k)) x).1 := by
 rw [List.take_add_one, h]
 exact play_snocD _ _ _
structure RnG where
 k : Nat
 F : Addr → Value → Prop
 s : BankS
 B : List (Nat × Obj)
 v : Value
 E : List (Nat × Obj)
 cs : List Value
def RepL (F : Addr → Value → Prop) (cs : List Value) (rs : List RepS) (n : Nat) : Prop :=
 ∀ (j : Nat) (r : RepS), j < n → rs[j]? = some r → ∃ a1 c1, IntsAt F a1 r.done ∧ ∀ (k : Nat) (v : Value), (repC r.code r.n (.slice a1 r.done.length c1))[k]? = some v → cs[j * 3 + k]? = some v
structure RnOk (tr tb b : Nat) (w : World) (xs : List ActS) (t : RnG) : Prop where
 k : t.k ≤ xs.length
 more : More (At w) t.F
 s : t.s = playM newB (xs.take t.k)
 good : BGood t.s
 rep : DevRep tb t.F b t.B t.s
 list : ListE tr 3 t.v t.k t.cs t.E
 cells : RepL (Young w t.F) t.cs (repsM newB xs) t.k
theorem rnOk_start {tr tb b : Nat} {w : World} {xs : List ActS} : RnOk tr tb b w xs ⟨0, At w, newB, [(b, .cells (bankD newM [] true 0 false 0) tb (0, 0))], .slice none 0 0, [], []⟩ where
 k := Nat.zero_le _
 more := fun _ _ h => h
 s := rfl
 good := bgood_new
 rep := ⟨newM, rfl, rfl, ⟨rfl, .inl rfl⟩, Nat.le_refl _⟩
 list := listE_nil tr 3
 cells := fun j r h => absurd h (Nat.not_lt_zero _)
theorem RnOk.step {tr tb b : Nat} {w : World} {xs : List ActS} {t : RnG} (o : RnOk tr tb b w xs t) {x : ActS} (hx : xs[t.k]? = some x) {F' : Addr → Value → Prop} (hF : More t.F F') {a1 : Option Addr} {c1 : Nat} (hi : IntsAt (Young w F') a1 (doM t.s x).2.done) {B' : List (Nat × Obj)} (hr : DevRep tb F' b B' (doM t.s x).1) {v' : Value} {E' : List (Nat × Obj)}
   (hl : ListE tr 3 v' (t.k + 1) (t.cs ++ (repC (doM t.s x).2.code (doM t.s x).2.n (.slice a1 (doM t.s x).2.done.length c1)).toList) E') : RnOk tr tb b w xs ⟨t.k + 1, F', (doM t.s x).1, B', v', E', t.cs ++ (repC (doM t.s x).2.code (doM t.s x).2.n (.slice a1 (doM t.s x).2.done.length c1)).toList⟩ where
 k := (List.getElem?_eq_some_iff.1 hx).1
 more := fun a v h => hF a v (o.more a v h)
 s := by show (doM t.s x).1 = _; rw [play_takeD hx, o.s]
 good := o.good.act x
 rep := hr
 list := hl
 cells := fun j r hj hjr => by
   have hlen := o.list.1
   by_cases e : j = t.k
   · subst e
     have h1 := reps_atD xs newB t.k x hx
     rw [← o.s, hjr] at h1
     simp only [Option.some.injEq] at h1
     subst h1
     refine ⟨a1, c1, hi, fun k v hv => ?_⟩
     show (t.cs ++ _)[t.k * 3 + k]? = _
     rw [List.getElem?_append_right (by omega), hlen, Nat.add_sub_cancel_left]
     simpa using hv
   · have hj' : j < t.k := by have : j < t.k + 1 := hj; omega
     obtain ⟨a2, c2, h2, h3⟩ := o.cells j r hj' hjr
     refine ⟨a2, c2, h2.mono (young_mono hF), fun k v hv => ?_⟩
     have h4 := h3 k v hv
     have h5 := (List.getElem?_eq_some_iff.1 h4).1
     show (t.cs ++ _)[j * 3 + k]? = _
     rw [List.getElem?_append_left h5]
     exact h4
def RunG (l : List ActS) (F : Addr → Value → Prop) (v : Value) : Prop := ∃ (a : Option Addr) (n c : Nat) (e : Int), v = .tuple #[.slice a n c, I e] ∧ (l.length ≤ 200 → n = l.length ∧ e = 0 ∧ RepsAt F a (repsM newB l)) ∧ (200 < l.length → n = 0 ∧ e = 5)
theorem runG_long {l : List ActS} {F : Addr → Value → Prop} (h : 200 < l.length) : RunG l F (.tuple #[.slice none 0 0, I 5]) := ⟨none, 0, 0, 5, rfl, fun h1 => by omega, fun _ => ⟨rfl, rfl⟩⟩
theorem RnOk.done {tr tb b : Nat} {w w' : World} {xs : List ActS} {t : RnG} {L : List (Nat × Obj)} (o : RnOk tr tb b w xs t) (hk : t.k = xs.length) (hl : xs.length ≤ 200) (hw : Has w t.F (t.E ++ L) w') : RunG xs (Fresh w w') (.tuple #[t.v, I 0]) := by
 have hlen := reps_len xs newB
 have hkn : Knows (Fresh w w') t.E := own_known hw (fun p hp => List.mem_append_left _ hp)
 rcases o.list.2 with ⟨h1, h2, h3⟩ | ⟨g, cap, cur, h1, h2, h3, h4, h5, h6⟩
 · refine ⟨none, 0, 0, 0, by rw [h1], fun _ => ⟨by omega, rfl, .inl ?_⟩, fun h => by omega⟩
   exact List.eq_nil_of_length_eq_zero (by omega)
 · refine ⟨some ⟨g, 0, none⟩, t.k, cap, 0, by rw [h1], fun _ => ⟨hk, rfl, .inr ⟨g, 0, rfl, fun j r hj => ?_⟩⟩, fun h => by omega⟩
   have hjl := (List.getElem?_eq_some_iff.1 hj).1
   obtain ⟨a1, c1, h7, h8⟩ := o.cells j r (by omega) hj
   refine ⟨a1, c1, h7.mono (young_fresh hw), fun k v hv => ?_⟩
   have h9 := h8 k v hv
   rw [← h6, List.getElem?_take] at h9
   split at h9
   · rw [Nat.zero_add]
     exact hkn g cur tr (0, 0) (by rw [h2]; exact .head _) (j * 3 + k) v (by simpa using h9)
   · cases h9
theorem runG_F {l : List ActS} {F : Addr → Value → Prop} {v : Value} (h : RunG l F v) (hl : l.length ≤ 200) : RunF l F v := by
 obtain ⟨a, n, c, e, h1, h2, _⟩ := h
 obtain ⟨rfl, rfl, h3⟩ := h2 hl
 exact ⟨a, c, h1, h3⟩
end Go.Proofs.Ytmkboljfbmlebab
