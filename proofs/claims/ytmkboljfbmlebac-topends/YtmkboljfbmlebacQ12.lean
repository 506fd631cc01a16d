/- What the laws of this place stand on, part 12. Each part names its own conditions in what it states. -/
import Derived.Test.YtmkboljfbmlebacQ11
namespace Go.Proofs.Ytmkboljfbmlebac
open Go.RowKit
set_option linter.unusedSimpArgs false
set_option linter.unusedVariables false
set_option maxRecDepth 100000
attribute [local irreducible] cC sC nC rC qw
set_option maxHeartbeats 2000000 in
theorem g_open (F : Addr → Value → Prop) (h : H) (b : Nat) (ps : List PayS) (tx : List Nat) (dn : Bool) (fl : Int) (na : Nat) (hbt : Byt tx) (hp : PaysIn F h.pa h.pl ps) (hlc : h.pl ≤ h.pc) (hps24 : ps.length ≤ 24) (htx : tx.length ≤ 4000) : GivesW Try.prog 12 [.pointer (some ⟨b, 0, none⟩)] F ([(b, .cells (bankD h (tx) (!dn) (na : Nat) (decide (0 ≤ fl)) (keptOf fl)) 49 (0, 0))]) (DoR 49 b (openM (⟨h.core, ps, tx, dn, fl, na⟩ : BankS))) := by
 refine givesW_of Try.func12 rfl Try.ntmps12 (by simp) (fun w K => ?_)
 refine r_seq (by kernel_rfl) ?_
 refine s_alloc (z := .agg (repC 0 0 (.slice none 0 0))) (by kernel_rfl) (fun b2 => ?_)
 refine s_nil ?_
 refine c_seq ?_
 refine r_seq (by kernel_rfl) ?_
 refine s_val (v_move (v := .pointer _) rfl) ?_
 refine s_val (v_nilCheck rfl) ?_
 refine s_val (v_field (fo := 43) (by kernel_rfl) rfl) ?_
 refine s_val (v_load1 (v := .bool _) (by kernel_rfl) rfl (.there .here) (bankD_up _ _ _ _ _ _)) ?_
 refine s_nil ?_
 refine c_cond rfl rfl (fun h8 => ?_) (fun h8 => ?_)
 · refine r_seq (by kernel_rfl) ?_
   refine s_call (by kernel_rfl) (fun w hw => g_failed _ w) ?_
   refine s_storeA (m := 3) (by kernel_rfl) rfl rfl .here rfl rfl rep_all ?_
   refine s_nil ?_
   refine c_ret ?_
   refine n_ret ?_
   have q1 : dn = false := by cases dn with | false => rfl | true => cases h8
   refine n_doneWD (m := 3) rfl (by decide) rfl (by kernel_rfl) .here rep_size (fun w1 hw => ?_)
   exact ⟨[(b, .cells (bankD h (tx) (!dn) (na : Nat) (decide (0 ≤ fl)) (keptOf fl)) 49 (0, 0))], F, (fun _ _ h => h), has_one (hw.sub (List.Sublist.cons _ (List.Sublist.cons_cons _ (List.Sublist.refl _)))), doR_err (by simp only [openM, q1, Bool.not_false, cond_true]) hp hlc⟩
 refine c_skip ?_
 refine n_then ?_
 refine r_seq (by kernel_rfl) ?_
 refine s_val (v_move (v := .pointer _) rfl) ?_
 refine s_val (v_nilCheck rfl) ?_
 refine s_val (v_field (fo := 42) (by kernel_rfl) rfl) ?_
 refine s_val (v_load1 (v := .string _) (by kernel_rfl) rfl (.there .here) (bankD_text _ _ _ _ _ _)) ?_
 refine s_callG (by kernel_rfl) (readF_mono _) (fun w hw => g_Read tx w hbt (by omega)) (fun F15 v15 hF15 hR15 => ?_)
 obtain ⟨v15b, rfl, hin15⟩ := hR15
 obtain ⟨a15, c15, rfl, hac0⟩ := hin15.at
 have hac := hac0.mono (more_young w F15)
 have hrf := read_factsD tx
 refine s_val (v_move (v := .tuple _) rfl) ?_
 refine s_val (v_extract rfl rfl) ?_
 refine s_val (v_extract rfl rfl) ?_
 refine s_val (v_assign (v := .slice _ _ _) rfl) ?_
 refine s_val (v_assign (v := .int .i64 _) rfl) ?_
 refine s_nil ?_
 refine r_seq (by kernel_rfl) ?_
 refine s_val (v_move (v := .pointer _) rfl) ?_
 refine s_val (v_move (v := .pointer _) rfl) ?_
 refine s_val (v_nilCheck rfl) ?_
 refine s_val (v_field (fo := 42) (by kernel_rfl) rfl) ?_
 refine s_val (v_load1 (v := .string _) (by kernel_rfl) rfl (.there .here) (bankD_text _ _ _ _ _ _)) ?_
 refine s_val (v_move (v := .int .i64 _) rfl) ?_
 refine s_val (v_strHi (by kernel_rfl) rfl rfl ⟨by omega, by omega⟩) ?_
 refine s_val (v_nilCheck rfl) ?_
 refine s_val (v_field (fo := 42) (by kernel_rfl) rfl) ?_
 refine s_store1 (v := .string _) (by kernel_rfl) rfl rfl (.there .here) (bankD_setText _ _ _ _ _ _) rfl ?_
 refine s_nil ?_
 refine r_seq (by kernel_rfl) ?_
 refine s_val (v_move (v := .pointer _) rfl) ?_
 refine s_val (v_move (v := .slice _ _ _) rfl) ?_
 refine s_callG (by kernel_rfl) (replayF_mono _) (fun w hw => g_Replay a15 c15 (readM tx) w (hac.at hw) (by omega)) (fun F29 v29 hF29 hR29 => ?_)
 obtain ⟨hx, rfl, hcx, hlx, _, hpx⟩ := hR29
 refine s_val (v_nilCheck rfl) ?_
 refine s_val (v_field (fo := 0) (by kernel_rfl) rfl) ?_
 refine s_storeP (m := 42) (by kernel_rfl) rfl rfl (.there .here) (by rw [bankD_size]; omega) (H.size _) (bankD_over _ _ _ _ _ _ _) (H.all1 _) ?_
 refine s_nil ?_
 refine r_seq (by kernel_rfl) ?_
 refine s_val (v_move (v := .pointer _) rfl) ?_
 refine s_val (v_nilCheck rfl) ?_
 refine s_val (v_field (fo := 43) (by kernel_rfl) rfl) ?_
 refine s_store1 (v := .bool _) (by kernel_rfl) rfl rfl (.there .here) (bankD_setUp _ _ _ _ _ _) rfl ?_
 refine s_nil ?_
 refine r_seq (by kernel_rfl) ?_
 refine s_val (v_move (v := .slice _ _ _) rfl) ?_
 refine s_val (v_lenS (T := 22) (m := 5) (by kernel_rfl) rfl rfl) ?_
 refine s_val (v_build (vs := [(1, .int .i64 _)]) (cs := repC 0 ((readM tx).length : Int) (.slice none 0 0)) rfl (by kernel_rfl)) ?_
 refine s_storeA (m := 3) (by kernel_rfl) rfl rfl .here rfl rfl rep_all ?_
 refine s_nil ?_
 refine c_ret ?_
 have q1 : dn = true := by cases dn with | true => rfl | false => cases h8
 refine n_doneWD (m := 3) rfl (by decide) rfl (by kernel_rfl) .here rep_size (fun w1 hw => ?_)
 refine ⟨[(b, .cells (bankD hx (bytesOf (readM tx)) true (na : Nat) (decide (0 ≤ fl)) (keptOf fl)) 49 (0, 0))], F29, fun a v h => hF29 a v (hF15 a v h), by have e := hrf.2.2; have h2 := hw.sub (List.Sublist.cons _ (List.Sublist.cons_cons _ (List.Sublist.refl _))); rw [e] at h2; exact has_one h2, ?_⟩
 simp only [openM, q1, Bool.not_true, cond_false]
 exact ⟨_, [], _, rfl, rfl, intsO_nil, hx, rfl, hcx, hpx.mono (more_young _ _), hlx⟩
set_option maxHeartbeats 2000000 in
theorem g_schedule (F : Addr → Value → Prop) (h : H) (b : Nat) (ps : List PayS) (tx : List Nat) (dn : Bool) (fl : Int) (na : Nat) (n : Int) (hp : PaysIn F h.pa h.pl ps) (hlc : h.pl ≤ h.pc) (hps24 : ps.length ≤ 24) (htx : tx.length ≤ 4000) : GivesW Try.prog 13 [.pointer (some ⟨b, 0, none⟩), I n] F ([(b, .cells (bankD h (tx) (!dn) (na : Nat) (decide (0 ≤ fl)) (keptOf fl)) 49 (0, 0))]) (DoR 49 b (schedM (⟨h.core, ps, tx, dn, fl, na⟩ : BankS) n)) := by
 refine givesW_of Try.func13 rfl Try.ntmps13 (by simp) (fun w K => ?_)
 refine r_seq (by kernel_rfl) ?_
 refine s_alloc (z := .agg (repC 0 0 (.slice none 0 0))) (by kernel_rfl) (fun b4 => ?_)
 refine s_nil ?_
 refine c_seq ?_
 refine r_seq (by kernel_rfl) ?_
 refine s_val (v_move (v := .int .i64 _) rfl) ?_
 refine s_call (by kernel_rfl) (fun w hw => g_withinB _ _ _ w) ?_
 refine s_val (v_not rfl) ?_
 refine s_nil ?_
 refine c_condN rfl rfl (fun h7 => ?_) (fun h7 => ?_)
 · refine r_seq (by kernel_rfl) ?_
   refine s_call (by kernel_rfl) (fun w hw => g_failed _ w) ?_
   refine s_storeA (m := 3) (by kernel_rfl) rfl rfl .here rfl rfl rep_all ?_
   refine s_nil ?_
   refine c_ret ?_
   refine n_ret ?_
   refine n_doneWD (m := 3) rfl (by decide) rfl (by kernel_rfl) .here rep_size (fun w1 hw => ?_)
   exact ⟨[(b, .cells (bankD h (tx) (!dn) (na : Nat) (decide (0 ≤ fl)) (keptOf fl)) 49 (0, 0))], F, (fun _ _ h => h), has_one (hw.sub (List.Sublist.cons _ (List.Sublist.cons_cons _ (List.Sublist.refl _)))), doR_err (by simp only [schedM, h7, Bool.not_false, cond_true]) hp hlc⟩
 refine c_skip ?_
 refine n_then ?_
 refine r_seq (by kernel_rfl) ?_
 refine s_val (v_move (v := .pointer _) rfl) ?_
 refine s_val (v_move (v := .pointer _) rfl) ?_
 refine s_val (v_move (v := .int .i64 _) rfl) ?_
 refine s_val (v_nilCheck rfl) ?_
 refine s_val (v_field (fo := 45) (by kernel_rfl) rfl) ?_
 refine s_store1 (v := .bool _) (by kernel_rfl) rfl rfl (.there .here) (bankD_setFails _ _ _ _ _ _) rfl ?_
 refine s_val (v_nilCheck rfl) ?_
 refine s_val (v_field (fo := 46) (by kernel_rfl) rfl) ?_
 refine s_store1 (v := .int .i64 _) (by kernel_rfl) rfl rfl (.there .here) (bankD_setKept _ _ _ _ _ _) rfl ?_
 refine s_nil ?_
 refine r_seq (by kernel_rfl) ?_
 refine s_val (v_build (vs := []) (cs := repC 0 0 (.slice none 0 0)) rfl (by kernel_rfl)) ?_
 refine s_storeA (m := 3) (by kernel_rfl) rfl rfl .here rfl rfl rep_all ?_
 refine s_nil ?_
 refine c_ret ?_
 have hwn := within_iff.1 h7
 refine n_doneWD (m := 3) rfl (by decide) rfl (by kernel_rfl) .here rep_size (fun w1 hw => ?_)
 refine ⟨[(b, .cells (bankD h (tx) (!dn) (na : Nat) (decide (0 ≤ n)) (keptOf n)) 49 (0, 0))], F, (fun _ _ h => h), by rw [decide_eq_true hwn.1, show keptOf n = n from if_pos hwn.1]; exact has_one (hw.sub (List.Sublist.cons _ (List.Sublist.cons_cons _ (List.Sublist.refl _)))), ?_⟩
 simp only [schedM, h7, Bool.not_true, cond_false]
 exact ⟨_, [], _, rfl, rfl, intsO_nil, h, rfl, rfl, hp, hlc⟩
set_option maxHeartbeats 2000000 in
theorem g_execute (F : Addr → Value → Prop) (h : H) (b : Nat) (ps : List PayS) (tx : List Nat) (dn : Bool) (fl : Int) (na : Nat) (a : ActS) (hp : PaysIn F h.pa h.pl ps) (hlc : h.pl ≤ h.pc) (hps24 : ps.length ≤ 24) (htx : tx.length ≤ 4000) : GivesW Try.prog 14 [.pointer (some ⟨b, 0, none⟩), .agg a.cells] F ([(b, .cells (bankD h (tx) (!dn) (na : Nat) (decide (0 ≤ fl)) (keptOf fl)) 49 (0, 0))]) (DoR 49 b (execM (⟨h.core, ps, tx, dn, fl, na⟩ : BankS) a)) := by
 refine givesW_of Try.func14 rfl Try.ntmps14 (by simp) (fun w K => ?_)
 have hfl28 := fText_lenD a
 have hb : h.pl * 48 ≤ 281474976710656 := by have := hp.1; omega
 refine r_seq (by kernel_rfl) ?_
 refine s_box (v := .agg _) rfl (fun b3 => ?_)
 refine s_alloc (z := .agg (repC 0 0 (.slice none 0 0))) (by kernel_rfl) (fun b4 => ?_)
 refine s_nil ?_
 refine d_gen (ρ := DE) (Fo := fun r => r.F) (Lo := deLo 47 32 (nextM h.core ps a).code (nextM h.core ps a).n ((b4, .cells ((repC 0 0 (.slice none 0 0))) 32) :: (b3, .cells a.cells 24) :: (b, .cells (bankD h (tx) (!dn) (na : Nat) (decide (0 ≤ fl)) (keptOf fl)) 49 (0, 0)) :: K)) (G := deG F (fun F1 (E1 : List (Nat × Obj)) (k : H) (y : Option Addr) (m z : Nat) => k.core = (nextM h.core ps a).c ∧ k.pl ≤ k.pc ∧ PaysIn F1 k.pa k.pl (nextM h.core ps a).ps ∧ ListE 3 1 (.slice y m z) (nextM h.core ps a).done.length ((nextM h.core ps a).done.map I) E1)) (le := DE.Le) (Ψ := psiD b h a (nextM h.core ps a).code (nextM h.core ps a).n) (by kernel_rfl) (by kernel_rfl) (by kernel_rfl) ⟨F, [], none, none, none⟩ rfl rfl ⟨fun _ _ h => h, fun _ => rfl, fun _ => rfl, fun _ => ⟨rfl, rfl⟩, (fun _ _ _ _ h => (by cases h)), (fun h => (by cases h)), (fun h => (by cases h))⟩ psiD_stab ?_ ?_
 · intro i o ho
   match i, ho with
   | 0, ho =>
     obtain rfl := Option.some.inj ho
     intro b1 r g hbi hed hG hl
     have e0 : g 0 = .pointer (some ⟨b, 0, none⟩) := (hl 0 (of_decide_eq_true (by kernel_rfl))).2 (of_decide_eq_true (by kernel_rfl))
     refine s_val (v_move (v := .pointer (some ⟨b, 0, none⟩)) e0) ?_
     exact s_fin (fun w1 hw => ⟨_, r, rfl, .refl r, ⟨hG.more, hG.b5, hG.b6, hG.q, hG.has, hG.h11, hG.h12⟩, hw, fun d hd => (by cases hd; exact rfl)⟩)
   | 1, ho =>
     obtain rfl := Option.some.inj ho
     intro b1 r g hbi hed hG hl
     have e10 : g 10 = .pointer (some ⟨b, 0, none⟩) := (hl 10 (of_decide_eq_true (by kernel_rfl))).1 (of_decide_eq_true (by kernel_rfl))
     refine s_val (v_nilCheck e10) ?_
     exact s_fin (fun w1 hw => ⟨_, r, rfl, .refl r, ⟨hG.more, hG.b5, hG.b6, hG.q, hG.has, hG.h11, hG.h12⟩, hw, fun d hd => (by cases hd; exact rfl)⟩)
   | 2, ho =>
     obtain rfl := Option.some.inj ho
     intro b1 r g hbi hed hG hl
     have e11 : g 11 = .pointer (some ⟨b, 0, none⟩) := (hl 11 (of_decide_eq_true (by kernel_rfl))).1 (of_decide_eq_true (by kernel_rfl))
     refine s_val (v_field (fo := 0) (by kernel_rfl) e11) ?_
     exact s_fin (fun w1 hw => ⟨_, r, rfl, .refl r, ⟨hG.more, hG.b5, hG.b6, hG.q, hG.has, hG.h11, hG.h12⟩, hw, fun d hd => (by cases hd; exact rfl)⟩)
   | 3, ho =>
     obtain rfl := Option.some.inj ho
     intro b1 r g hbi hed hG hl
     have e12 : g 12 = .pointer (some ⟨b, 0 + 0, none⟩) := (hl 12 (of_decide_eq_true (by kernel_rfl))).1 (of_decide_eq_true (by kernel_rfl))
     refine s_val (v_loadN (m := 42) (cs' := h.cells) (by kernel_rfl) e12 (.app (.app (.app (.there (.there .here))))) (H.size _) (bankD_house _ _ _ _ _ _)) ?_
     exact s_fin (fun w1 hw => ⟨_, r, rfl, .refl r, ⟨hG.more, hG.b5, hG.b6, hG.q, hG.has, hG.h11, hG.h12⟩, hw, fun d hd => (by cases hd; exact rfl)⟩)
   | 4, ho =>
     obtain rfl := Option.some.inj ho
     intro b1 r g hbi hed hG hl
     have e3 : g 3 = .pointer (some ⟨b3, 0, none⟩) := (hl 3 (of_decide_eq_true (by kernel_rfl))).2 (of_decide_eq_true (by kernel_rfl))
     refine s_val (v_loadA (m := 5) (by kernel_rfl) e3 (.app (.app (.app (.there .here)))) rfl) ?_
     exact s_fin (fun w1 hw => ⟨_, r, rfl, .refl r, ⟨hG.more, hG.b5, hG.b6, hG.q, hG.has, hG.h11, hG.h12⟩, hw, fun d hd => (by cases hd; exact rfl)⟩)
   | 5, ho =>
     obtain rfl := Option.some.inj ho
     intro b1 r g hbi hed hG hl
     have e13 : g 13 = .agg h.cells := (hl 13 (of_decide_eq_true (by kernel_rfl))).1 (of_decide_eq_true (by kernel_rfl))
     have e14 : g 14 = .agg a.cells := (hl 14 (of_decide_eq_true (by kernel_rfl))).1 (of_decide_eq_true (by kernel_rfl))
     have h11f : b1 11 = false := by cases e : b1 11 with | false => rfl | true => (have := (hG.h11 e).2; rw [hbi] at this; cases this)
     have h12f : b1 12 = false := by cases e : b1 12 with | false => rfl | true => (have := (hG.h12 e).2; rw [hbi] at this; cases this)
     have hE0 := (hG.q hbi).2
     refine s_weak (fun w1 hw => (show Has w r.F _ w1 from (by rw [deLo_before hE0 h11f h12f] at hw; exact hw))) ?_
     refine s_callV (by kernel_rfl) (show GivesV _ _ [g 13, g 14] r.F [] (NextV 3 (nextM h.core ps a)) from (by rw [e13, e14]; exact g_Next r.F h ps a (hp.mono hG.more) (by have := hp.1; omega))) (fun F15 v15 E15 hF15 hR15 => ?_)
     obtain ⟨hx, vx, rfl, hcx, hlx, hpx, hdx⟩ := hR15
     obtain ⟨ax, mx, cx, rfl⟩ := hdx.shape3
     refine s_fin (fun w1 hw => ⟨_, ⟨F15, E15, r.b5, r.b6, some (hx, ax, mx, cx)⟩, rfl, ⟨hF15, fun _ h => h, fun _ h => h, (fun _ h => (by rw [(hG.q hbi).1] at h; cases h))⟩, ⟨fun a v h => hF15 a v (hG.more a v h), hG.b5, hG.b6, (fun h => (by cases h)), fun k y m z e => (by cases e; exact ⟨hcx, hlx, hpx.mono (more_young _ _), hdx⟩), fun h => ⟨(hG.h11 h).1, rfl⟩, fun h => ⟨(hG.h12 h).1, rfl⟩⟩, ?_, fun d hd => (by cases hd; exact ⟨hx, ax, mx, cx, rfl, rfl⟩)⟩)
     rw [← deLo_call h11f h12f]; exact hw
   | 6, ho =>
     obtain rfl := Option.some.inj ho
     intro b1 r g hbi hed hG hl
     have e15 : ∃ x y m z, r.q = some (x, y, m, z) ∧ g 15 = .tuple #[.agg x.cells, .agg (repC (nextM h.core ps a).code (nextM h.core ps a).n (.slice y m z))] := (hl 15 (of_decide_eq_true (by kernel_rfl))).1 (of_decide_eq_true (by kernel_rfl))
     obtain ⟨x1, y1, m1, z1, q1, e15⟩ := e15
     refine s_val (v_move (v := .tuple _) e15) ?_
     exact s_fin (fun w1 hw => ⟨_, r, rfl, .refl r, ⟨hG.more, hG.b5, hG.b6, hG.q, hG.has, hG.h11, hG.h12⟩, hw, fun d hd => (by cases hd; exact ⟨x1, y1, m1, z1, q1, rfl⟩)⟩)
   | 7, ho =>
     obtain rfl := Option.some.inj ho
     intro b1 r g hbi hed hG hl
     have e9 : ∃ x y m z, r.q = some (x, y, m, z) ∧ g 9 = .tuple #[.agg x.cells, .agg (repC (nextM h.core ps a).code (nextM h.core ps a).n (.slice y m z))] := (hl 9 (of_decide_eq_true (by kernel_rfl))).1 (of_decide_eq_true (by kernel_rfl))
     obtain ⟨x1, y1, m1, z1, q1, e9⟩ := e9
     refine s_val (v_extract e9 rfl) ?_
     exact s_fin (fun w1 hw => ⟨_, r, rfl, .refl r, ⟨hG.more, hG.b5, hG.b6, hG.q, hG.has, hG.h11, hG.h12⟩, hw, fun d hd => (by cases hd; exact ⟨x1, y1, m1, z1, q1, rfl⟩)⟩)
   | 8, ho =>
     obtain rfl := Option.some.inj ho
     intro b1 r g hbi hed hG hl
     have e9 : ∃ x y m z, r.q = some (x, y, m, z) ∧ g 9 = .tuple #[.agg x.cells, .agg (repC (nextM h.core ps a).code (nextM h.core ps a).n (.slice y m z))] := (hl 9 (of_decide_eq_true (by kernel_rfl))).1 (of_decide_eq_true (by kernel_rfl))
     obtain ⟨x1, y1, m1, z1, q1, e9⟩ := e9
     refine s_val (v_extract e9 rfl) ?_
     exact s_fin (fun w1 hw => ⟨_, r, rfl, .refl r, ⟨hG.more, hG.b5, hG.b6, hG.q, hG.has, hG.h11, hG.h12⟩, hw, fun d hd => (by cases hd; exact ⟨x1, y1, m1, z1, q1, rfl⟩)⟩)
   | 9, ho =>
     obtain rfl := Option.some.inj ho
     intro b1 r g hbi hed hG hl
     have h11f : b1 11 = false := by cases e : b1 11 with | false => rfl | true => (have := (hG.h11 e).1; rw [hbi] at this; cases this)
     refine s_alloc (z := .agg zeroH.cells) (by kernel_rfl) (fun bn => ?_)
     exact s_fin (fun w1 hw => ⟨_, ⟨r.F, r.E, some bn, r.b6, r.q⟩, rfl, ⟨fun _ _ h => h, (fun _ h => (by rw [hG.b5 hbi] at h; cases h)), fun _ h => h, fun _ h => h⟩, ⟨hG.more, (fun h => (by cases h)), hG.b6, hG.q, hG.has, fun h => ⟨rfl, (hG.h11 h).2⟩, hG.h12⟩, hw.perm (deLo_alloc5 (hG.b5 hbi) h11f bn), fun d hd => (by cases hd; exact ⟨bn, rfl, rfl⟩)⟩)
   | 10, ho =>
     obtain rfl := Option.some.inj ho
     intro b1 r g hbi hed hG hl
     have h12f : b1 12 = false := by cases e : b1 12 with | false => rfl | true => (have := (hG.h12 e).1; rw [hbi] at this; cases this)
     refine s_alloc (z := .agg (repC 0 0 (.slice none 0 0))) (by kernel_rfl) (fun bn => ?_)
     exact s_fin (fun w1 hw => ⟨_, ⟨r.F, r.E, r.b5, some bn, r.q⟩, rfl, ⟨fun _ _ h => h, fun _ h => h, (fun _ h => (by rw [hG.b6 hbi] at h; cases h)), fun _ h => h⟩, ⟨hG.more, hG.b5, (fun h => (by cases h)), hG.q, hG.has, hG.h11, fun h => ⟨rfl, (hG.h12 h).2⟩⟩, hw.perm (deLo_alloc6 (hG.b6 hbi) h12f bn), fun d hd => (by cases hd; exact ⟨bn, rfl, rfl⟩)⟩)
   | 11, ho =>
     obtain rfl := Option.some.inj ho
     intro b1 r g hbi hed hG hl
     have e5 : ∃ x, r.b5 = some x ∧ g 5 = .pointer (some ⟨x, 0, none⟩) := (hl 5 (of_decide_eq_true (by kernel_rfl))).1 (of_decide_eq_true (by kernel_rfl))
     have e16 : ∃ x y m z, r.q = some (x, y, m, z) ∧ g 16 = .agg x.cells := (hl 16 (of_decide_eq_true (by kernel_rfl))).1 (of_decide_eq_true (by kernel_rfl))
     obtain ⟨bx, qb, e5⟩ := e5
     obtain ⟨x1, y1, m1, z1, q1, e16⟩ := e16
     have hed9 : b1 9 = true := by cases e : b1 9 with | true => rfl | false => (have := hG.b5 e; rw [qb] at this; cases this)
     have hed5 : b1 5 = true := by cases e : b1 5 with | true => rfl | false => (have := (hG.q e).1; rw [q1] at this; cases this)
     refine s_weak (fun w1 hw => (show Has w r.F _ w1 from (by rw [deLo_b5 qb hbi] at hw; exact hw))) ?_
     refine s_storeA (m := 42) (by kernel_rfl) e5 e16 (.app (.app .here)) (H.size _) (H.size _) (H.all1 _) ?_
     refine s_fin (fun w1 hw => ⟨undef, r, rfl, .refl r, ⟨hG.more, hG.b5, hG.b6, hG.q, hG.has, fun _ => ⟨hed9, hed5⟩, hG.h12⟩, ?_, fun d hd => (by cases hd)⟩)
     rw [← deLo_st5 qb q1]; exact hw
   | 12, ho =>
     obtain rfl := Option.some.inj ho
     intro b1 r g hbi hed hG hl
     have e6 : ∃ x, r.b6 = some x ∧ g 6 = .pointer (some ⟨x, 0, none⟩) := (hl 6 (of_decide_eq_true (by kernel_rfl))).1 (of_decide_eq_true (by kernel_rfl))
     have e17 : ∃ x y m z, r.q = some (x, y, m, z) ∧ g 17 = .agg (repC (nextM h.core ps a).code (nextM h.core ps a).n (.slice y m z)) := (hl 17 (of_decide_eq_true (by kernel_rfl))).1 (of_decide_eq_true (by kernel_rfl))
     obtain ⟨bx, qb, e6⟩ := e6
     obtain ⟨x1, y1, m1, z1, q1, e17⟩ := e17
     have hed10 : b1 10 = true := by cases e : b1 10 with | true => rfl | false => (have := hG.b6 e; rw [qb] at this; cases this)
     have hed5 : b1 5 = true := by cases e : b1 5 with | true => rfl | false => (have := (hG.q e).1; rw [q1] at this; cases this)
     refine s_weak (fun w1 hw => (show Has w r.F _ w1 from (by rw [deLo_b6 qb hbi] at hw; exact hw))) ?_
     refine s_storeA (m := 3) (by kernel_rfl) e6 e17 (.app .here) rep_size rep_size rep_all ?_
     refine s_fin (fun w1 hw => ⟨undef, r, rfl, .refl r, ⟨hG.more, hG.b5, hG.b6, hG.q, hG.has, hG.h11, fun _ => ⟨hed10, hed5⟩⟩, ?_, fun d hd => (by cases hd)⟩)
     rw [← deLo_st6 qb q1]; exact hw
   | n + 13, ho => cases ho
 intro b18 r1 g hall hG hd he
 obtain ⟨b5, q5, e5⟩ : ∃ x, r1.b5 = some x ∧ g 5 = .pointer (some ⟨x, 0, none⟩) := hd 5 (of_decide_eq_true (by kernel_rfl))
 obtain ⟨b6, q6, e6⟩ : ∃ x, r1.b6 = some x ∧ g 6 = .pointer (some ⟨x, 0, none⟩) := hd 6 (of_decide_eq_true (by kernel_rfl))
 obtain ⟨hx, ax, mx, cx, qq, _⟩ : ∃ x y m z, r1.q = some (x, y, m, z) ∧ g 16 = .agg x.cells := hd 16 (of_decide_eq_true (by kernel_rfl))
 obtain ⟨hcx, hlx, hpx, hdx⟩ := hG.has _ _ _ _ qq
 have hmr := hG.more
 rw [deLo_all q5 q6 qq (hall 11 (by decide)) (hall 12 (by decide))]
 have e0 : g 0 = .pointer (some ⟨b, 0, none⟩) := he 0 (of_decide_eq_true (by kernel_rfl))
 have e3 : g 3 = .pointer (some ⟨b3, 0, none⟩) := he 3 (of_decide_eq_true (by kernel_rfl))
 have e4 : g 4 = .pointer (some ⟨b4, 0, none⟩) := he 4 (of_decide_eq_true (by kernel_rfl))
 obtain ⟨g1, hg1⟩ : ∃ g1, g = (upd (upd (upd (upd (upd g1 0 (.pointer (some ⟨b, 0, none⟩))) 3 (.pointer (some ⟨b3, 0, none⟩))) 4 (.pointer (some ⟨b4, 0, none⟩))) 5 (.pointer (some ⟨b5, 0, none⟩))) 6 (.pointer (some ⟨b6, 0, none⟩))) := ⟨g, live5 e0 e3 e4 e5 e6⟩
 rw [hg1]
 refine c_seq ?_
 refine r_seq (by kernel_rfl) ?_
 refine s_val (v_field (fo := 0) (by kernel_rfl) rfl) ?_
 refine s_val (v_load1 (v := .int .i64 _) (by kernel_rfl) rfl (.app .here) rfl) ?_
 refine s_val (v_neq (k := .i64) rfl rfl) ?_
 refine s_nil ?_
 refine c_condN rfl rfl (fun h20 => ?_) (fun h20 => ?_)
 · refine r_seq (by kernel_rfl) ?_
   refine s_val (v_loadA (m := 3) (by kernel_rfl) rfl (.app .here) rfl) ?_
   refine s_storeA (m := 3) (by kernel_rfl) rfl rfl (.app (.there (.there .here))) rfl rfl rep_all ?_
   refine s_nil ?_
   refine c_ret ?_
   refine n_ret ?_
   have q6 : decide ((nextM h.core ps a).code = 0) = false := h20
   refine n_doneWD (m := 3) rfl (by decide) rfl (by kernel_rfl) (.app (.there (.there .here))) rep_size (fun w1 hw => ?_)
   refine ⟨r1.E ++ [(b, .cells (bankD h (tx) (!dn) (na : Nat) (decide (0 ≤ fl)) (keptOf fl)) 49 (0, 0))], r1.F, hmr, has_last (hw.sub (List.Sublist.append (List.Sublist.refl _) (List.Sublist.cons _ (List.Sublist.cons _ (List.Sublist.cons _ (List.Sublist.cons _ (List.Sublist.cons_cons _ (List.Sublist.refl _)))))))), ?_⟩
   exact doR_rep (q := (nextM h.core ps a)) (by simp only [execM, q6, cond_true, cond_false, Bool.not_true, Bool.not_false, Bool.or_true, Bool.true_or, Bool.or_false, Bool.false_or]) rfl (hp.mono hmr) hlc hdx
 refine c_skip ?_
 refine n_then ?_
 refine r_seq (by kernel_rfl) ?_
 refine s_val (v_loadA (m := 5) (by kernel_rfl) rfl (.app (.there (.there (.there .here)))) rfl) ?_
 refine s_call (by kernel_rfl) (fun w hw => g_Frame a w) ?_
 refine s_val (v_move (v := .tuple _) rfl) ?_
 refine s_val (v_extract rfl rfl) ?_
 refine s_val (v_extract rfl rfl) ?_
 refine s_val (v_assign (v := S _) rfl) ?_
 refine s_val (v_assign (v := .int .i64 _) rfl) ?_
 refine s_nil ?_
 refine c_seq ?_
 refine r_seq (by kernel_rfl) ?_
 refine s_val (v_move (v := .int .i64 _) rfl) ?_
 refine s_val (v_neq (k := .i64) rfl rfl) ?_
 refine s_nil ?_
 refine c_condN rfl rfl (fun h28 => ?_) (fun h28 => ?_)
 · refine r_seq (by kernel_rfl) ?_
   refine s_val (v_move (v := .int .i64 _) rfl) ?_
   refine s_call (by kernel_rfl) (fun w hw => g_failed _ w) ?_
   refine s_storeA (m := 3) (by kernel_rfl) rfl rfl (.app (.there (.there .here))) rfl rfl rep_all ?_
   refine s_nil ?_
   refine c_ret ?_
   refine n_ret ?_
   have q6 : decide ((nextM h.core ps a).code = 0) = true := h20
   have q7 : noted a = false := frame_codeD.2 (of_decide_eq_false h28)
   refine n_doneWD (m := 3) rfl (by decide) rfl (by kernel_rfl) (.app (.there (.there .here))) rep_size (fun w1 hw => ?_)
   rw [fErr_noD q7]
   exact ⟨[(b, .cells (bankD h (tx) (!dn) (na : Nat) (decide (0 ≤ fl)) (keptOf fl)) 49 (0, 0))], r1.F, hmr, has_one (hw.sub (List.Sublist.trans (List.Sublist.cons _ (List.Sublist.cons _ (List.Sublist.cons _ (List.Sublist.cons _ (List.Sublist.cons_cons _ (List.Sublist.refl _)))))) (List.sublist_append_right _ _))), doR_err (by simp only [execM, q6, q7, cond_true, cond_false, Bool.not_true, Bool.not_false, Bool.or_true, Bool.true_or, Bool.or_false, Bool.false_or]) (hp.mono hmr) hlc⟩
 refine c_skip ?_
 refine n_then ?_
 refine c_seq ?_
 refine r_seq (by kernel_rfl) ?_
 refine s_val (v_move (v := .pointer _) rfl) ?_
 refine s_val (v_nilCheck rfl) ?_
 refine s_val (v_field (fo := 42) (by kernel_rfl) rfl) ?_
 refine s_val (v_load1 (v := .string _) (by kernel_rfl) rfl (.app (.there (.there (.there (.there .here))))) (bankD_text _ _ _ _ _ _)) ?_
 refine s_val (v_strLen (by kernel_rfl) rfl rfl) ?_
 refine s_val (v_move (v := S _) rfl) ?_
 refine s_val (v_strLen (by kernel_rfl) rfl rfl) ?_
 refine s_val (v_add rfl rfl (by omega)) ?_
 refine s_val (v_gtr (k := .i64) rfl rfl) ?_
 refine s_nil ?_
 refine c_cond rfl rfl (fun h39 => ?_) (fun h39 => ?_)
 · refine r_seq (by kernel_rfl) ?_
   refine s_call (by kernel_rfl) (fun w hw => g_failed _ w) ?_
   refine s_storeA (m := 3) (by kernel_rfl) rfl rfl (.app (.there (.there .here))) rfl rfl rep_all ?_
   refine s_nil ?_
   refine c_ret ?_
   refine n_ret ?_
   have q6 : decide ((nextM h.core ps a).code = 0) = true := h20
   have q7 : noted a = true := frame_codeD.1 (of_decide_eq_true h28)
   have q8 : decide (4000 < tx.length + (frameOf a).length) = true := decide_eq_true (by have := of_decide_eq_true h39; rw [fText_yesD q7] at this; omega)
   refine n_doneWD (m := 3) rfl (by decide) rfl (by kernel_rfl) (.app (.there (.there .here))) rep_size (fun w1 hw => ?_)
   exact ⟨[(b, .cells (bankD h (tx) (!dn) (na : Nat) (decide (0 ≤ fl)) (keptOf fl)) 49 (0, 0))], r1.F, hmr, has_one (hw.sub (List.Sublist.trans (List.Sublist.cons _ (List.Sublist.cons _ (List.Sublist.cons _ (List.Sublist.cons _ (List.Sublist.cons_cons _ (List.Sublist.refl _)))))) (List.sublist_append_right _ _))), doR_err (by simp only [execM, q6, q7, q8, cond_true, cond_false, Bool.not_true, Bool.not_false, Bool.or_true, Bool.true_or, Bool.or_false, Bool.false_or]) (hp.mono hmr) hlc⟩
 refine c_skip ?_
 refine n_then ?_
 refine c_seq ?_
 refine r_seq (by kernel_rfl) ?_
 refine s_val (v_move (v := .pointer _) rfl) ?_
 refine s_val (v_nilCheck rfl) ?_
 refine s_val (v_field (fo := 45) (by kernel_rfl) rfl) ?_
 refine s_val (v_load1 (v := .bool _) (by kernel_rfl) rfl (.app (.there (.there (.there (.there .here))))) (bankD_fails _ _ _ _ _ _)) ?_
 refine s_nil ?_
 refine c_condR rfl rfl (fun h44 => ?_) (fun h44 => ?_)
 · refine c_skip ?_
   refine n_then ?_
   refine r_seq (by kernel_rfl) ?_
   refine s_val (v_move (v := .pointer _) rfl) ?_
   refine s_val (v_nilCheck rfl) ?_
   refine s_val (v_field (fo := 42) (by kernel_rfl) rfl) ?_
   refine s_val (v_load1 (v := .string _) (by kernel_rfl) rfl (.app (.there (.there (.there (.there .here))))) (bankD_text _ _ _ _ _ _)) ?_
   refine s_val (v_move (v := S _) rfl) ?_
   refine s_val (v_strAdd rfl rfl (by omega)) ?_
   refine s_val (v_nilCheck rfl) ?_
   refine s_val (v_field (fo := 42) (by kernel_rfl) rfl) ?_
   refine s_store1 (v := .string _) (by kernel_rfl) rfl rfl (.app (.there (.there (.there (.there .here))))) (bankD_setText _ _ _ _ _ _) rfl ?_
   refine s_nil ?_
   refine r_seq (by kernel_rfl) ?_
   refine s_val (v_move (v := .pointer _) rfl) ?_
   refine s_val (v_loadA (m := 42) (by kernel_rfl) rfl (.app (.there .here)) (H.size _)) ?_
   refine s_val (v_nilCheck rfl) ?_
   refine s_val (v_field (fo := 0) (by kernel_rfl) rfl) ?_
   refine s_storeP (m := 42) (by kernel_rfl) rfl rfl (.app (.there (.there (.there (.there .here))))) (by rw [bankD_size]; omega) (H.size _) (bankD_over _ _ _ _ _ _ _) (H.all1 _) ?_
   refine s_nil ?_
   refine r_seq (by kernel_rfl) ?_
   refine s_val (v_loadA (m := 3) (by kernel_rfl) rfl (.app .here) rfl) ?_
   refine s_storeA (m := 3) (by kernel_rfl) rfl rfl (.app (.there (.there .here))) rfl rfl rep_all ?_
   refine s_nil ?_
   refine c_ret ?_
   have q6 : decide ((nextM h.core ps a).code = 0) = true := h20
   have q7 : noted a = true := frame_codeD.1 (of_decide_eq_true h28)
   have q8 : decide (4000 < tx.length + (frameOf a).length) = false := decide_eq_false (by have := of_decide_eq_false h39; rw [fText_yesD q7] at this; omega)
   have q9 : decide (0 ≤ fl) = false := h44
   refine n_doneWD (m := 3) rfl (by decide) rfl (by kernel_rfl) (.app (.there (.there .here))) rep_size (fun w1 hw => ?_)
   refine ⟨r1.E ++ [(b, .cells (bankD hx (tx ++ frameOf a) (!dn) (na : Nat) (decide (0 ≤ fl)) (keptOf fl)) 49 (0, 0))], r1.F, hmr, by have h2 := hw.sub (List.Sublist.append (List.Sublist.refl _) (List.Sublist.cons _ (List.Sublist.cons _ (List.Sublist.cons _ (List.Sublist.cons _ (List.Sublist.cons_cons _ (List.Sublist.refl _))))))); rw [fText_yesD q7] at h2; exact has_last h2, ?_⟩
   exact doR_rep (q := (nextM h.core ps a)) (by simp only [execM, q6, q7, q8, q9, cond_true, cond_false, Bool.not_true, Bool.not_false, Bool.or_true, Bool.true_or, Bool.or_false, Bool.false_or]) hcx hpx hlx hdx
 refine t_seq (k := 16) (by kernel_rfl) (by kernel_rfl) (fun w hw => hw.drew) (by kernel_rfl) ?_
 refine q_val (v_move (v := .pointer _) rfl) ?_
 refine q_val (v_nilCheck rfl) ?_
 refine q_val (v_field (fo := 42) (by kernel_rfl) rfl) ?_
 refine q_val (v_load1 (v := .string _) (by kernel_rfl) rfl (.app (.there (.there (.there (.there .here))))) (bankD_text _ _ _ _ _ _)) ?_
 refine q_val (v_move (v := S _) rfl) ?_
 refine q_val (v_move (v := .pointer _) rfl) ?_
 refine q_val (v_nilCheck rfl) ?_
 refine q_val (v_field (fo := 46) (by kernel_rfl) rfl) ?_
 refine q_val (v_load1 (v := .int .i64 _) (by kernel_rfl) rfl (.app (.there (.there (.there (.there .here))))) (bankD_kept _ _ _ _ _ _)) ?_
 refine q_val (v_move (v := S _) rfl) ?_
 refine q_val (v_strLen (by kernel_rfl) rfl rfl) ?_
 refine q_val (v_min rfl rfl) ?_
 refine q_val (v_strHi (by kernel_rfl) rfl rfl (by have := of_decide_eq_true h44; unfold minI keptOf; split <;> split <;> omega)) ?_
 refine q_val (v_strAdd rfl rfl (by simp only [List.length_take]; omega)) ?_
 refine q_val (v_nilCheck rfl) ?_
 refine q_val (v_field (fo := 42) (by kernel_rfl) rfl) ?_
 refine q_tail ?_
 refine s_store1 (v := .string _) (by kernel_rfl) rfl rfl (.app (.there (.there (.there (.there .here))))) (bankD_setText _ _ _ _ _ _) rfl ?_
 refine s_nil ?_
 refine r_seq (by kernel_rfl) ?_
 refine s_val (v_move (v := .pointer _) rfl) ?_
 refine s_val (v_move (v := .pointer _) rfl) ?_
 refine s_val (v_move (v := .pointer _) rfl) ?_
 refine s_val (v_nilCheck rfl) ?_
 refine s_val (v_field (fo := 43) (by kernel_rfl) rfl) ?_
 refine s_store1 (v := .bool _) (by kernel_rfl) rfl rfl (.app (.there (.there (.there (.there .here))))) (bankD_setUp _ _ _ _ _ _) rfl ?_
 refine s_val (v_nilCheck rfl) ?_
 refine s_val (v_field (fo := 45) (by kernel_rfl) rfl) ?_
 refine s_store1 (v := .bool _) (by kernel_rfl) rfl rfl (.app (.there (.there (.there (.there .here))))) (bankD_setFails _ _ _ _ _ _) rfl ?_
 refine s_val (v_nilCheck rfl) ?_
 refine s_val (v_field (fo := 46) (by kernel_rfl) rfl) ?_
 refine s_store1 (v := .int .i64 _) (by kernel_rfl) rfl rfl (.app (.there (.there (.there (.there .here))))) (bankD_setKept _ _ _ _ _ _) rfl ?_
 refine s_nil ?_
 refine r_seq (by kernel_rfl) ?_
 refine s_call (by kernel_rfl) (fun w hw => g_failed _ w) ?_
 refine s_storeA (m := 3) (by kernel_rfl) rfl rfl (.app (.there (.there .here))) rfl rfl rep_all ?_
 refine s_nil ?_
 refine c_ret ?_
 refine n_ret ?_
 have q6 : decide ((nextM h.core ps a).code = 0) = true := h20
 have q7 : noted a = true := frame_codeD.1 (of_decide_eq_true h28)
 have q8 : decide (4000 < tx.length + (frameOf a).length) = false := decide_eq_false (by have := of_decide_eq_false h39; rw [fText_yesD q7] at this; omega)
 have q9 : decide (0 ≤ fl) = true := h44
 refine n_doneWD (m := 3) rfl (by decide) rfl (by kernel_rfl) (.app (.there (.there .here))) rep_size (fun w1 hw => ?_)
 have hfl := of_decide_eq_true h44
 refine ⟨[(b, .cells (bankD h (tx ++ (frameOf a).take fl.toNat) (!true) (na : Nat) (decide ((0 : Int) ≤ -1)) (keptOf (-1))) 49 (0, 0))], r1.F, hmr, by have h2 := hw.sub (List.Sublist.trans (List.Sublist.cons _ (List.Sublist.cons _ (List.Sublist.cons _ (List.Sublist.cons _ (List.Sublist.cons_cons _ (List.Sublist.refl _)))))) (List.sublist_append_right _ _)); rw [take_minD q7 hfl] at h2; exact has_one h2, ?_⟩
 exact doR_err (by simp only [execM, q6, q7, q8, q9, cond_true, cond_false, Bool.not_true, Bool.not_false, Bool.or_true, Bool.true_or, Bool.or_false, Bool.false_or]) (hp.mono hmr) hlc
end Go.Proofs.Ytmkboljfbmlebac
namespace Go.Proofs.Ytmkboljfbmlebac
open Go.RowKit
set_option linter.unusedSimpArgs false
set_option linter.unusedVariables false
set_option maxRecDepth 100000
attribute [local irreducible] cC sC nC rC qw
set_option maxHeartbeats 2000000 in
theorem g_Do (F : Addr → Value → Prop) (h : H) (b : Nat) (ps : List PayS) (tx : List Nat) (dn : Bool) (fl : Int) (na : Nat) (a : ActS) (hp : PaysIn F h.pa h.pl ps) (hlc : h.pl ≤ h.pc) (hps24 : ps.length ≤ 24) (htx : tx.length ≤ 4000) (hna : na ≤ 200) (hbt : Byt tx) : GivesW Try.prog 6 [.pointer (some ⟨b, 0, none⟩), .agg a.cells] F ([(b, .cells (bankD h (tx) (!dn) (na : Nat) (decide (0 ≤ fl)) (keptOf fl)) 49 (0, 0))]) (DoR 49 b (doM (⟨h.core, ps, tx, dn, fl, na⟩ : BankS) a)) := by
 refine givesW_of Try.func6 rfl Try.ntmps6 (by simp) (fun w K => ?_)
 refine r_seq (by kernel_rfl) ?_
 refine s_box (v := .agg _) rfl (fun b3 => ?_)
 refine s_alloc (z := .agg (repC 0 0 (.slice none 0 0))) (by kernel_rfl) (fun b4 => ?_)
 refine s_nil ?_
 refine c_seq ?_
 refine r_seq (by kernel_rfl) ?_
 refine s_val (v_move (v := .pointer _) rfl) ?_
 refine s_val (v_ptrNil (by kernel_rfl) rfl rfl) ?_
 refine s_nil ?_
 refine c_condFh rfl rfl rfl ?_
 refine c_skip ?_
 refine n_then ?_
 refine c_seq ?_
 refine r_seq (by kernel_rfl) ?_
 refine s_val (v_move (v := .pointer _) rfl) ?_
 refine s_val (v_nilCheck rfl) ?_
 refine s_val (v_field (fo := 44) (by kernel_rfl) rfl) ?_
 refine s_val (v_load1 (v := .int .i64 _) (by kernel_rfl) rfl (.there (.there .here)) (bankD_acts _ _ _ _ _ _)) ?_
 refine s_val (v_geq (k := .i64) rfl rfl) ?_
 refine s_nil ?_
 refine c_cond rfl rfl (fun h12 => ?_) (fun h12 => ?_)
 · refine r_seq (by kernel_rfl) ?_
   refine s_call (by kernel_rfl) (fun w hw => g_failed _ w) ?_
   refine s_storeA (m := 3) (by kernel_rfl) rfl rfl .here rfl rfl rep_all ?_
   refine s_nil ?_
   refine c_ret ?_
   refine n_ret ?_
   have q1 : decide (na = 200) = true := decide_eq_true (by have := of_decide_eq_true h12; omega)
   refine n_doneWD (m := 3) rfl (by decide) rfl (by kernel_rfl) .here rep_size (fun w1 hw => ?_)
   exact ⟨[(b, .cells (bankD h (tx) (!dn) (na : Nat) (decide (0 ≤ fl)) (keptOf fl)) 49 (0, 0))], F, (fun _ _ h => h), has_one (hw.sub (List.Sublist.cons _ (List.Sublist.cons _ (List.Sublist.cons_cons _ (List.Sublist.refl _))))), doR_err (by rw [doM_eq]; simp only [q1, cond_true, cond_false, Bool.not_true, Bool.not_false, Bool.or_true, Bool.true_or, Bool.or_false, Bool.false_or]) hp hlc⟩
 refine c_skip ?_
 refine n_then ?_
 refine r_seq (by kernel_rfl) ?_
 refine s_val (v_move (v := .pointer _) rfl) ?_
 refine s_val (v_nilCheck rfl) ?_
 refine s_val (v_field (fo := 44) (by kernel_rfl) rfl) ?_
 refine s_val (v_load1 (v := .int .i64 _) (by kernel_rfl) rfl (.there (.there .here)) (bankD_acts _ _ _ _ _ _)) ?_
 refine s_val (v_add rfl rfl (by omega)) ?_
 refine s_val (v_nilCheck rfl) ?_
 refine s_val (v_field (fo := 44) (by kernel_rfl) rfl) ?_
 refine s_store1 (v := .int .i64 _) (by kernel_rfl) rfl rfl (.there (.there .here)) (bankD_setActs _ _ _ _ _ _) rfl ?_
 refine s_nil ?_
 refine c_block ?_
 refine r_seq (by kernel_rfl) ?_
 refine s_val (v_field (fo := 0) (by kernel_rfl) rfl) ?_
 refine s_val (v_load1 (v := .int .i64 _) (by kernel_rfl) rfl (.there .here) rfl) ?_
 refine s_val (v_eql (k := .i64) rfl rfl) ?_
 refine s_val (v_assign (v := .bool _) rfl) ?_
 refine s_nil ?_
 refine c_cond rfl rfl (fun h24 => ?_) (fun h24 => ?_)
 · refine r_seq (by kernel_rfl) ?_
   refine s_val (v_move (v := .pointer _) rfl) ?_
   refine s_weak (fun w1 hw => hw.perm (List.Perm.cons _ (List.Perm.swap _ _ _))) ?_
   refine s_weak (fun w1 hw => hw.perm (List.Perm.swap _ _ _)) ?_
   refine s_callW (B := [(b, .cells (bankD h (tx) (!dn) (na + 1 : Nat) (decide (0 ≤ fl)) (keptOf fl)) 49 (0, 0))]) (by kernel_rfl) (g_open F h b ps tx dn fl (na + 1) hbt hp hlc hps24 htx) (fun F1 v1 B1 hF1 hR1 => ?_)
   obtain ⟨vd, E1, B2, rfl, rfl, hi1, hr1⟩ := hR1
   obtain ⟨a1, c1, rfl, hi2⟩ := id hi1
   refine s_weak (fun w1 hw => has_assoc hw) ?_
   refine s_storeA (m := 3) (by kernel_rfl) rfl rfl (.app (.app .here)) rfl rfl rep_all ?_
   refine s_nil ?_
   refine c_ret ?_
   refine n_bret ?_
   have q1 : decide (na = 200) = false := decide_eq_false (by have := of_decide_eq_false h12; omega)
   have q2 : decide (a.kind = 11) = true := decide_eq_true (by have := of_decide_eq_true h24; omega)
   have he : doM (⟨h.core, ps, tx, dn, fl, na⟩ : BankS) a = openM { c := h.core, ps := ps, text := tx, down := dn, fail := fl, acts := na + 1 } := by rw [doM_eq]; simp only [q1, q2, cond_true, cond_false, Bool.not_true, Bool.not_false, Bool.or_true, Bool.true_or, Bool.or_false, Bool.false_or]
   refine n_doneWD (m := 3) rfl (by decide) rfl (by kernel_rfl) (.app (.app .here)) rep_size (fun w1 hw => ?_)
   refine ⟨E1 ++ B2, F1, hF1, has_assoc' (hw.sub (List.Sublist.append (List.Sublist.refl _) (List.Sublist.append (List.Sublist.refl _) (List.Sublist.cons _ (List.Sublist.cons _ (List.Sublist.refl _)))))), ?_⟩
   rw [he]
   exact ⟨_, E1, B2, rfl, rfl, hi1, hr1⟩
 refine r_seq (by kernel_rfl) ?_
 refine s_val (v_move (v := .pointer _) rfl) ?_
 refine s_val (v_nilCheck rfl) ?_
 refine s_val (v_field (fo := 43) (by kernel_rfl) rfl) ?_
 refine s_val (v_load1 (v := .bool _) (by kernel_rfl) rfl (.there (.there .here)) (bankD_up _ _ _ _ _ _)) ?_
 refine s_val (v_not rfl) ?_
 refine s_val (v_assign (v := .bool _) rfl) ?_
 refine s_nil ?_
 refine c_condN rfl rfl (fun h30 => ?_) (fun h30 => ?_)
 · refine r_seq (by kernel_rfl) ?_
   refine s_call (by kernel_rfl) (fun w hw => g_failed _ w) ?_
   refine s_storeA (m := 3) (by kernel_rfl) rfl rfl .here rfl rfl rep_all ?_
   refine s_nil ?_
   refine c_ret ?_
   refine n_bret ?_
   have q1 : decide (na = 200) = false := decide_eq_false (by have := of_decide_eq_false h12; omega)
   have q2 : decide (a.kind = 11) = false := decide_eq_false (by have := of_decide_eq_false h24; omega)
   have q3 : dn = true := by cases dn with | true => rfl | false => cases h30
   refine n_doneWD (m := 3) rfl (by decide) rfl (by kernel_rfl) .here rep_size (fun w1 hw => ?_)
   exact ⟨[(b, .cells (bankD h (tx) (!dn) (na + 1 : Nat) (decide (0 ≤ fl)) (keptOf fl)) 49 (0, 0))], F, (fun _ _ h => h), has_one (hw.sub (List.Sublist.cons _ (List.Sublist.cons _ (List.Sublist.cons_cons _ (List.Sublist.refl _))))), doR_err (by rw [doM_eq]; simp only [q1, q2, q3, cond_true, cond_false, Bool.not_true, Bool.not_false, Bool.or_true, Bool.true_or, Bool.or_false, Bool.false_or]) hp hlc⟩
 refine r_seq (by kernel_rfl) ?_
 refine s_val (v_field (fo := 0) (by kernel_rfl) rfl) ?_
 refine s_val (v_load1 (v := .int .i64 _) (by kernel_rfl) rfl (.there .here) rfl) ?_
 refine s_val (v_eql (k := .i64) rfl rfl) ?_
 refine s_val (v_assign (v := .bool _) rfl) ?_
 refine s_nil ?_
 refine c_condR rfl rfl (fun h37 => ?_) (fun h37 => ?_)
 · refine r_seq (by kernel_rfl) ?_
   refine s_val (v_move (v := .pointer _) rfl) ?_
   refine s_val (v_loadA (m := 5) (by kernel_rfl) rfl (.there .here) rfl) ?_
   refine s_weak (fun w1 hw => hw.perm (List.Perm.cons _ (List.Perm.swap _ _ _))) ?_
   refine s_weak (fun w1 hw => hw.perm (List.Perm.swap _ _ _)) ?_
   refine s_callW (B := [(b, .cells (bankD h (tx) (!dn) (na + 1 : Nat) (decide (0 ≤ fl)) (keptOf fl)) 49 (0, 0))]) (by kernel_rfl) (g_execute F h b ps tx dn fl (na + 1) a hp hlc hps24 htx) (fun F1 v1 B1 hF1 hR1 => ?_)
   obtain ⟨vd, E1, B2, rfl, rfl, hi1, hr1⟩ := hR1
   obtain ⟨a1, c1, rfl, hi2⟩ := id hi1
   refine s_weak (fun w1 hw => has_assoc hw) ?_
   refine s_storeA (m := 3) (by kernel_rfl) rfl rfl (.app (.app .here)) rfl rfl rep_all ?_
   refine s_nil ?_
   refine c_ret ?_
   refine n_bret ?_
   have q1 : decide (na = 200) = false := decide_eq_false (by have := of_decide_eq_false h12; omega)
   have q2 : decide (a.kind = 11) = false := decide_eq_false (by have := of_decide_eq_false h24; omega)
   have q3 : dn = false := by cases dn with | false => rfl | true => cases h30
   have q4 : decide (a.kind = 10) = false := decide_eq_false (by have := of_decide_eq_false h37; omega)
   have he : doM (⟨h.core, ps, tx, dn, fl, na⟩ : BankS) a = execM { c := h.core, ps := ps, text := tx, down := dn, fail := fl, acts := na + 1 } a := by rw [doM_eq]; simp only [q1, q2, q3, q4, cond_true, cond_false, Bool.not_true, Bool.not_false, Bool.or_true, Bool.true_or, Bool.or_false, Bool.false_or]
   refine n_doneWD (m := 3) rfl (by decide) rfl (by kernel_rfl) (.app (.app .here)) rep_size (fun w1 hw => ?_)
   refine ⟨E1 ++ B2, F1, hF1, has_assoc' (hw.sub (List.Sublist.append (List.Sublist.refl _) (List.Sublist.append (List.Sublist.refl _) (List.Sublist.cons _ (List.Sublist.cons _ (List.Sublist.refl _)))))), ?_⟩
   rw [he]
   exact ⟨_, E1, B2, rfl, rfl, hi1, hr1⟩
 refine r_seq (by kernel_rfl) ?_
 refine s_val (v_move (v := .pointer _) rfl) ?_
 refine s_val (v_field (fo := 4) (by kernel_rfl) rfl) ?_
 refine s_val (v_load1 (v := .int .i64 _) (by kernel_rfl) rfl (.there .here) rfl) ?_
 refine s_weak (fun w1 hw => hw.perm (List.Perm.cons _ (List.Perm.swap _ _ _))) ?_
 refine s_weak (fun w1 hw => hw.perm (List.Perm.swap _ _ _)) ?_
 refine s_callW (B := [(b, .cells (bankD h (tx) (!dn) (na + 1 : Nat) (decide (0 ≤ fl)) (keptOf fl)) 49 (0, 0))]) (by kernel_rfl) (g_schedule F h b ps tx dn fl (na + 1) a.n hp hlc hps24 htx) (fun F1 v1 B1 hF1 hR1 => ?_)
 obtain ⟨vd, E1, B2, rfl, rfl, hi1, hr1⟩ := hR1
 obtain ⟨a1, c1, rfl, hi2⟩ := id hi1
 refine s_weak (fun w1 hw => has_assoc hw) ?_
 refine s_storeA (m := 3) (by kernel_rfl) rfl rfl (.app (.app .here)) rfl rfl rep_all ?_
 refine s_nil ?_
 refine c_ret ?_
 refine n_bret ?_
 have q1 : decide (na = 200) = false := decide_eq_false (by have := of_decide_eq_false h12; omega)
 have q2 : decide (a.kind = 11) = false := decide_eq_false (by have := of_decide_eq_false h24; omega)
 have q3 : dn = false := by cases dn with | false => rfl | true => cases h30
 have q4 : decide (a.kind = 10) = true := decide_eq_true (by have := of_decide_eq_true h37; omega)
 have he : doM (⟨h.core, ps, tx, dn, fl, na⟩ : BankS) a = schedM { c := h.core, ps := ps, text := tx, down := dn, fail := fl, acts := na + 1 } a.n := by rw [doM_eq]; simp only [q1, q2, q3, q4, cond_true, cond_false, Bool.not_true, Bool.not_false, Bool.or_true, Bool.true_or, Bool.or_false, Bool.false_or]
 refine n_doneWD (m := 3) rfl (by decide) rfl (by kernel_rfl) (.app (.app .here)) rep_size (fun w1 hw => ?_)
 refine ⟨E1 ++ B2, F1, hF1, has_assoc' (hw.sub (List.Sublist.append (List.Sublist.refl _) (List.Sublist.append (List.Sublist.refl _) (List.Sublist.cons _ (List.Sublist.cons _ (List.Sublist.refl _)))))), ?_⟩
 rw [he]
 exact ⟨_, E1, B2, rfl, rfl, hi1, hr1⟩
end Go.Proofs.Ytmkboljfbmlebac
namespace Go.Proofs.Ytmkboljfbmlebac
open Go.RowKit
set_option linter.unusedSimpArgs false
set_option linter.unusedVariables false
set_option maxRecDepth 100000
attribute [local irreducible] cC sC nC rC qw
theorem g_NewBank  (w : World) : GivesE Try.prog 10 [] w (fun v E => ∃ b, v = .pointer (some ⟨b, 0, none⟩) ∧ E = [(b, .cells (bankD newM [] true 0 false 0) 49 (0, 0))]) := by
 refine givesE_of Try.func10 rfl Try.ntmps10 (by simp) ?_
 refine r_seq (by kernel_rfl) ?_
 refine s_val (v_assign (v := .pointer _) rfl) ?_
 refine s_nil ?_
 refine r_seq (by kernel_rfl) ?_
 refine s_call (by kernel_rfl) (fun w hw => g_New w) ?_
 refine s_val (v_build (vs := [(0, .agg _), (2, .bool _)]) (cs := bankD newM [] true 0 false 0) rfl (by kernel_rfl)) ?_
 refine s_box (v := .agg _) rfl (fun b3 => ?_)
 refine s_val (v_assign (v := .pointer _) rfl) ?_
 refine s_nil ?_
 refine c_ret ?_
 refine n_doneE (E := [_]) (L := []) rfl (by decide) ⟨b3, rfl, rfl⟩
theorem g_House (h : H) (b : Nat) (ps : List PayS) (tx : List Nat) (up : Bool) (na : Int) (fs : Bool) (kp : Int) (w : World) (hc : ∀ (j : Nat) (v : Value), (bankD h tx up na fs kp)[j]? = some v → At w ⟨b, 0 + j, none⟩ v) (hp : PaysIn (At w) h.pa h.pl ps) (h24 : h.pl ≤ 24) : GivesE Try.prog 17 [.pointer (some ⟨b, 0, none⟩)] w (fun v E => ∃ pa pc, v = .agg ({ h with pa := pa, pc := pc } : H).cells ∧ ListE 65 6 (.slice pa h.pl pc) h.pl (flatC ps) E) := by
 refine givesE_of Try.func17 rfl Try.ntmps17 (by simp) ?_
 refine r_seq (by kernel_rfl) ?_
 refine s_alloc (z := .agg zeroH.cells) (by kernel_rfl) (fun b2 => ?_)
 refine s_nil ?_
 refine c_seq ?_
 refine r_seq (by kernel_rfl) ?_
 refine s_val (v_move (v := .pointer _) rfl) ?_
 refine s_val (v_ptrNil (by kernel_rfl) rfl rfl) ?_
 refine s_nil ?_
 refine c_condFh rfl rfl rfl ?_
 refine c_skip ?_
 refine n_then ?_
 refine r_seq (by kernel_rfl) ?_
 refine s_val (v_move (v := .pointer _) rfl) ?_
 refine s_val (v_nilCheck rfl) ?_
 refine s_val (v_field (fo := 0) (by kernel_rfl) rfl) ?_
 refine s_val (v_loadNo (cs := h.cells) (m := 42) (by kernel_rfl) rfl (H.size _) (fun j v hv => by have e := hc j v (by unfold bankD; rw [Array.getElem?_append_left (Array.getElem?_eq_some_iff.1 hv).1]; exact hv); exact e)) ?_
 refine s_callE (by kernel_rfl) (fun w hw => g_ownL h ps w (hp.at hw) h24) (fun v10 E10 hR10 => ?_)
 obtain ⟨pa10, pc10, rfl, hE10⟩ := hR10
 refine s_storeA (m := 42) (by kernel_rfl) rfl rfl (.app .here) (H.size _) (H.size _) (H.all1 _) ?_
 refine s_nil ?_
 refine c_ret ?_
 refine n_doneCE (E := E10) (m := 42) rfl (by decide) rfl (by kernel_rfl) (.app .here) (H.size _) (fun w hw => hw) ⟨_, _, rfl, hE10⟩
theorem g_Book (h : H) (b : Nat) (ps : List PayS) (tx : List Nat) (up : Bool) (na : Int) (fs : Bool) (kp : Int) (w : World) (hc : ∀ (j : Nat) (v : Value), (bankD h tx up na fs kp)[j]? = some v → At w ⟨b, 0 + j, none⟩ v) : Gives Try.prog 15 [.pointer (some ⟨b, 0, none⟩)] w (.tuple #[S tx, .bool up]) := by
 refine gives_of Try.func15 rfl Try.ntmps15 (by simp) ?_
 refine r_seq (by kernel_rfl) ?_
 refine s_val (v_assign (v := S []) rfl) ?_
 refine s_val (v_assign (v := .bool _) rfl) ?_
 refine s_nil ?_
 refine c_seq ?_
 refine r_seq (by kernel_rfl) ?_
 refine s_val (v_move (v := .pointer _) rfl) ?_
 refine s_val (v_ptrNil (by kernel_rfl) rfl rfl) ?_
 refine s_nil ?_
 refine c_condFh rfl rfl rfl ?_
 refine c_skip ?_
 refine n_then ?_
 refine d_seq (by kernel_rfl) (by kernel_rfl) (fun w hw => hw.drew) (by kernel_rfl) ?_
 refine q_val (v_move (v := .pointer _) rfl) ?_
 refine q_val (v_nilCheck rfl) ?_
 refine q_val (v_field (fo := 42) (by kernel_rfl) rfl) ?_
 refine q_val (v_load1o (v := S tx) (by kernel_rfl) rfl (hc 42 _ (bankD_text h tx up na fs kp))) ?_
 refine q_val (v_move (v := .pointer _) rfl) ?_
 refine q_val (v_nilCheck rfl) ?_
 refine q_val (v_field (fo := 43) (by kernel_rfl) rfl) ?_
 refine q_val (v_load1o (v := .bool up) (by kernel_rfl) rfl (hc 43 _ (bankD_up h tx up na fs kp))) ?_
 refine q_val (v_assign (v := S _) rfl) ?_
 refine q_val (v_assign (v := .bool _) rfl) ?_
 refine q_nil ?_
 refine c_ret ?_
 exact n_doneI2 rfl (by decide) (by decide) rfl
end Go.Proofs.Ytmkboljfbmlebac
namespace Go.Proofs.Ytmkboljfbmlebac
open Go.RowKit
set_option linter.unusedSimpArgs false
set_option linter.unusedVariables false
set_option maxRecDepth 100000
attribute [local irreducible] cC sC nC rC qw
theorem g_DoR (F : Addr → Value → Prop) (b : Nat) (B : List (Nat × Obj)) (s : BankS) (a : ActS) (hg : BGood s) (hr : DevRep 49 F b B s) : GivesW Try.prog 6 [.pointer (some ⟨b, 0, none⟩), .agg a.cells] F B (DoR 49 b (doM s a)) := by
 obtain ⟨h, rfl, hc, hp, hlc⟩ := hr
 have hps24 : s.ps.length ≤ 24 := (bgood_inv hg).1.len
 have htx : s.text.length ≤ 4000 := by obtain ⟨_, _, hh⟩ := id hg; exact hh.inv.len
 have hna : s.acts ≤ 200 := by obtain ⟨_, _, hh⟩ := id hg; exact hh.acts
 have hd := g_Do F h b s.ps s.text s.down s.fail s.acts a hp hlc hps24 htx hna (bgood_byt hg)
 rw [hc] at hd
 exact hd
theorem rep_cells {w : World} {b : Nat} {cs : Array Value} {t : Nat} (hl : Lies w [(b, .cells cs t (0, 0))]) (j : Nat) (v : Value) (hv : cs[j]? = some v) : At w ⟨b, 0 + j, none⟩ v := by
 show w.cell? _ = _
 rw [Nat.zero_add, cell_of_row w b j cs t (0, 0) (hl _ (.head _))]
 exact hv
noncomputable def theBank : BankOk where
 Rep := DevRep 49
 mono := fun h hm => h.mono hm
 new := fun w => ⟨(g_NewBank w).out.mono fun e w' ⟨v, E, h1, h2, h3, b, h4, h5⟩ => ⟨v, E, h1, h2, h3, b, h4, fun F => ⟨newM, h5, rfl, ⟨rfl, .inl rfl⟩, Nat.le_refl _⟩⟩⟩
 act := fun F b B s a hg hr => g_DoR F b B s a hg hr
 house := fun w b B s hg hr hl => by
   obtain ⟨h, rfl, hc, hp, hlc⟩ := hr
   have hps24 : s.ps.length ≤ 24 := (bgood_inv hg).1.len
   have hh := g_House h b s.ps s.text _ _ _ _ w (rep_cells hl) hp (by have := hp.1; omega)
   exact ⟨hh.out.mono fun e w' ⟨v, E, h1, h2, h3, pa, pc, h4, h5⟩ => ⟨v, E, h1, h2, h3, { h with pa := pa, pc := pc }, h4, hc, (ListE.pays h5 hp.1).o⟩⟩
 book := fun w b B s hg hr hl => by
   obtain ⟨h, rfl, hc, hp, hlc⟩ := hr
   exact g_Book h b s.ps s.text _ _ _ _ w (rep_cells hl)
end Go.Proofs.Ytmkboljfbmlebac
