/- What the laws of this place stand on, part 11. Each part names its own conditions in what it states. -/
import Derived.Test.YtmkboljfbmlebacGreatQ10
import Derived.Shelf.SlSortCmp.NoneTotal
import Derived.Ground.SlsfProg
import Derived.Test.YtmkboljfbmlebacGreatProg
namespace Go.Proofs.YtmkboljfbmlebacGreat
open Go.RowKit
set_option linter.unusedSimpArgs false
set_option linter.unusedVariables false
set_option maxRecDepth 100000
attribute [local irreducible] cC sC nC rC qw
set_option maxHeartbeats 4000000 in
theorem gr_Do (F : Addr → Value → Prop) (h : H) (b : Nat) (ps : List PayS) (tx : List Nat) (dn : Bool) (fl : Int) (na : Nat) (a : ActS) (hg : BGood (⟨h.core, ps, tx, dn, fl, na⟩ : BankS)) (hp : PaysIn F h.pa h.pl ps) (hlc : h.pl ≤ h.pc) : GivesW Tryz.prog 9 [.pointer (some ⟨b, 0, none⟩), .agg a.cells] F ([(b, .cells (bankC h (tx) dn (fl) (na)) 46 (0, 0))]) (fun F2 v B' => ∃ a1 c1, v = .agg (repC (doM (⟨h.core, ps, tx, dn, fl, na⟩ : BankS) a).2.code (doM (⟨h.core, ps, tx, dn, fl, na⟩ : BankS) a).2.n (.slice a1 (doM (⟨h.core, ps, tx, dn, fl, na⟩ : BankS) a).2.done.length c1)) ∧ IntsAt F2 a1 (doM (⟨h.core, ps, tx, dn, fl, na⟩ : BankS) a).2.done ∧ RefRep 46 F2 b B' (doM (⟨h.core, ps, tx, dn, fl, na⟩ : BankS) a).1) := by
 refine givesW_of Tryz.func9 rfl Tryz.ntmps9 (by simp) (fun w K => ?_)
 have hps24 : ps.length ≤ 24 := (bgood_inv hg).1.len
 have hb : h.pl * 48 ≤ 281474976710656 := by have := hp.1; omega
 have htx : tx.length ≤ 4000 := by obtain ⟨_, _, hh⟩ := hg; exact hh.inv.len
 have hna : na ≤ 200 := by obtain ⟨_, _, hh⟩ := hg; exact hh.acts
 have hbt : Byt tx := bgood_byt hg
 have hfl28 := fText_len a
 refine r_seq (by kernel_rfl) (s_box (v := .agg _) rfl (fun b3 => ?_))
 refine s_alloc (z := .agg (repC 0 0 (.slice none 0 0))) (by kernel_rfl) (fun b4 => ?_)
 refine s_nil (r_seq (by kernel_rfl) (s_val (v_assign (v := .func _ _ _) rfl) (s_nil (c_seq (r_seq (by kernel_rfl) (s_val (v_move (v := .pointer _) rfl) (s_val (v_nilCheck rfl) (s_val (v_fd 45 (by kernel_rfl) rfl) (s_val (v_ldI (by kernel_rfl) rfl (.there (.there .here)) (bankC_acts _ _ _ _ _)) (s_val (v_eql (k := .i64) rfl rfl) (s_nil (c_cond rfl rfl (fun h16 => ?_) (fun h16 => ?_)))))))))))))
 · refine r_seq (by kernel_rfl) (s_val (v_move (v := .func _ _ _) rfl) (s_callC (k := 22) (caps := []) rfl (by kernel_rfl) (fun w hw => gr_noB 5 w) (s_storeA (m := 3) (by kernel_rfl) rfl rfl .here rfl rfl rep_all (s_nil (c_ret (n_ret ?_))))))
   have q1 : decide (na = 200) = true := decide_eq_true (by have := of_decide_eq_true h16; omega)
   refine n_doneWC (B' := [(b, .cells (bankC h (tx) dn (fl) (na)) 46 (0, 0))]) (m := 3) rfl (by decide) rfl (by kernel_rfl) .here rep_size (fun _ _ h => h) (fun w1 hw => by exact hw.sub (List.Sublist.cons _ (List.Sublist.cons _ (List.Sublist.cons_cons _ (List.Sublist.refl _))))) ?_
   simp only [doM, q1, cond_true, cond_false, Bool.not_true, Bool.not_false, Bool.or_true, Bool.true_or, Bool.or_false, Bool.false_or]
   exact ⟨none, 0, rfl, .inl rfl, h, rfl, rfl, hp, hlc⟩
 refine c_skip (n_then (r_seq (by kernel_rfl) (s_val (v_move (v := .pointer _) rfl) (s_val (v_nilCheck rfl) (s_val (v_fd 45 (by kernel_rfl) rfl) (s_val (v_ldI (by kernel_rfl) rfl (.there (.there .here)) (bankC_acts _ _ _ _ _)) (s_val (v_add rfl rfl (by omega)) (s_val (v_nilCheck rfl) (s_val (v_fd 45 (by kernel_rfl) rfl) (s_store1 (v := .int .i64 _) (by kernel_rfl) rfl rfl (.there (.there .here)) (bankC_setActs _ _ _ _ _) rfl (s_nil (c_seq (r_seq (by kernel_rfl) (s_val (v_fd 0 (by kernel_rfl) rfl) (s_val (v_ldI (by kernel_rfl) rfl (.there .here) rfl) (s_val (v_eql (k := .i64) rfl rfl) (s_nil (c_cond rfl rfl (fun h28 => ?_) (fun h28 => ?_)))))))))))))))))))
 · refine c_seq (r_seq (by kernel_rfl) (s_val (v_move (v := .pointer _) rfl) (s_val (v_nilCheck rfl) (s_val (v_fd 43 (by kernel_rfl) rfl) (s_val (v_load1 (v := .bool _) (by kernel_rfl) rfl (.there (.there .here)) (bankC_down _ _ _ _ _)) (s_val (v_not rfl) (s_nil (c_condN rfl rfl (fun h33 => ?_) (fun h33 => ?_)))))))))
   · refine r_seq (by kernel_rfl) (s_val (v_move (v := .func _ _ _) rfl) (s_callC (k := 22) (caps := []) rfl (by kernel_rfl) (fun w hw => gr_noB 2 w) (s_storeA (m := 3) (by kernel_rfl) rfl rfl .here rfl rfl rep_all (s_nil (c_ret (n_ret (n_ret ?_)))))))
     have q1 : decide (na = 200) = false := decide_eq_false (by have := of_decide_eq_false h16; omega)
     have q2 : decide (a.kind = 11) = true := decide_eq_true (by have := of_decide_eq_true h28; omega)
     have q3 : dn = false := h33
     refine n_doneWC (B' := [(b, .cells (bankC h (tx) dn (fl) ((na + 1 : Nat))) 46 (0, 0))]) (m := 3) rfl (by decide) rfl (by kernel_rfl) .here rep_size (fun _ _ h => h) (fun w1 hw => by exact hw.sub (List.Sublist.cons _ (List.Sublist.cons _ (List.Sublist.cons_cons _ (List.Sublist.refl _))))) ?_
     simp only [doM, q1, q2, q3, cond_true, cond_false, Bool.not_true, Bool.not_false, Bool.or_true, Bool.true_or, Bool.or_false, Bool.false_or]
     exact ⟨none, 0, rfl, .inl rfl, h, rfl, rfl, hp, hlc⟩
   refine c_skip (n_then (r_seq (by kernel_rfl) (s_val (v_move (v := .pointer _) rfl) (s_val (v_nilCheck rfl) (s_val (v_fd 42 (by kernel_rfl) rfl) (s_val (v_load1 (v := .string _) (by kernel_rfl) rfl (.there (.there .here)) (bankC_text _ _ _ _ _)) (s_callG (by kernel_rfl) (readF_mono _) (fun w hw => gr_ReadBook tx w hbt (by omega)) (fun F41 v41 hF41 hR41 => ?_))))))))
   obtain ⟨v41b, rfl, hin41⟩ := hR41
   obtain ⟨a41, c41, rfl, hac0⟩ := hin41.at
   have hac := hac0.mono (more_young w F41)
   refine s_val (v_move (v := .tuple _) rfl) (s_val (v_extract rfl rfl) (s_val (v_extract rfl rfl) (s_val (v_assign (v := .slice _ _ _) rfl) (s_val (v_asI rfl) (s_nil (d_gen (ρ := BG) (Fo := fun r => r.F) (Lo := (bgLo [(b4, .cells ((repC 0 0 (.slice none 0 0))) 31), (b3, .cells a.cells 34)] K b 46 h (tx) (bytesOf (readM tx)) dn false (fl) ((na + 1 : Nat)) 13 16 19)) (G := (fun (b1 : Nat → Bool) (r : BG) => More F41 r.F ∧ (b1 16 = true → b1 8 = true) ∧ (b1 4 = false → r.q = none) ∧ (∀ x, r.q = some x → (fun F1 (k : H) => k.core = (replayM (readM tx)).1 ∧ k.pl ≤ k.pc ∧ PaysIn F1 k.pa k.pl (replayM (readM tx)).2) r.F x) ∧ (b1 13 = true → b1 4 = true))) (le := BG.Le) (Ψ := (fun (d : Nat) (v : Value) (r : BG) => if d = 44 then (v = .pointer (some ⟨b, 0, none⟩)) else if d = 45 then (v = .pointer (some ⟨b, 0, none⟩)) else if d = 46 then (v = .pointer (some ⟨b, 0, none⟩)) else if d = 47 then (v = .slice a41 (readM tx).length c41) else if d = 48 then (∃ x, r.q = some x ∧ v = .agg x.cells) else if d = 49 then (v = .pointer (some ⟨b, 0, none⟩)) else if d = 50 then (v = .pointer (some ⟨b, 0, none⟩)) else if d = 51 then (v = .pointer (some ⟨b, 0 + 42, none⟩)) else if d = 52 then (v = S tx) else if d = 53 then (v = I (bytesOf (readM tx)).length) else if d = 54 then (v = S (bytesOf (readM tx))) else if d = 55 then (v = .pointer (some ⟨b, 0, none⟩)) else if d = 56 then (v = .pointer (some ⟨b, 0 + 0, none⟩)) else if d = 57 then (v = .pointer (some ⟨b, 0, none⟩)) else if d = 58 then (v = .pointer (some ⟨b, 0 + 42, none⟩)) else if d = 59 then (v = .pointer (some ⟨b, 0, none⟩)) else if d = 60 then (v = .pointer (some ⟨b, 0 + 43, none⟩)) else True)) (by kernel_rfl) (by kernel_rfl) (by kernel_rfl) ⟨F41, none⟩ rfl rfl ⟨fun _ _ h => h, (fun h => (by cases h)), fun _ => rfl, (fun _ h => (by cases h)), (fun h => (by cases h))⟩ ?_ ?_ ?_))))))
   · intro d v r r1 hle hps
     try dsimp only at hps ⊢
     by_cases c0 : d = 44
     · rw [if_pos c0] at hps ⊢; exact hps
     rw [if_neg c0] at hps ⊢
     by_cases c1 : d = 45
     · rw [if_pos c1] at hps ⊢; exact hps
     rw [if_neg c1] at hps ⊢
     by_cases c2 : d = 46
     · rw [if_pos c2] at hps ⊢; exact hps
     rw [if_neg c2] at hps ⊢
     by_cases c3 : d = 47
     · rw [if_pos c3] at hps ⊢; exact hps
     rw [if_neg c3] at hps ⊢
     by_cases c4 : d = 48
     · rw [if_pos c4] at hps ⊢; obtain ⟨x, e1, e2⟩ := hps; exact ⟨x, hle.q _ e1, e2⟩
     rw [if_neg c4] at hps ⊢
     by_cases c5 : d = 49
     · rw [if_pos c5] at hps ⊢; exact hps
     rw [if_neg c5] at hps ⊢
     by_cases c6 : d = 50
     · rw [if_pos c6] at hps ⊢; exact hps
     rw [if_neg c6] at hps ⊢
     by_cases c7 : d = 51
     · rw [if_pos c7] at hps ⊢; exact hps
     rw [if_neg c7] at hps ⊢
     by_cases c8 : d = 52
     · rw [if_pos c8] at hps ⊢; exact hps
     rw [if_neg c8] at hps ⊢
     by_cases c9 : d = 53
     · rw [if_pos c9] at hps ⊢; exact hps
     rw [if_neg c9] at hps ⊢
     by_cases c10 : d = 54
     · rw [if_pos c10] at hps ⊢; exact hps
     rw [if_neg c10] at hps ⊢
     by_cases c11 : d = 55
     · rw [if_pos c11] at hps ⊢; exact hps
     rw [if_neg c11] at hps ⊢
     by_cases c12 : d = 56
     · rw [if_pos c12] at hps ⊢; exact hps
     rw [if_neg c12] at hps ⊢
     by_cases c13 : d = 57
     · rw [if_pos c13] at hps ⊢; exact hps
     rw [if_neg c13] at hps ⊢
     by_cases c14 : d = 58
     · rw [if_pos c14] at hps ⊢; exact hps
     rw [if_neg c14] at hps ⊢
     by_cases c15 : d = 59
     · rw [if_pos c15] at hps ⊢; exact hps
     rw [if_neg c15] at hps ⊢
     by_cases c16 : d = 60
     · rw [if_pos c16] at hps ⊢; exact hps
     rw [if_neg c16] at hps ⊢
     trivial
   · intro i o ho
     match i, ho with
     | 0, ho =>
       obtain rfl := Option.some.inj ho
       intro b1 r g hbi hed hG hl
       have e0 : g 0 = .pointer (some ⟨b, 0, none⟩) := (hl 0 (dK (by kernel_rfl))).2 (dK (by kernel_rfl))
       refine s_val (v_move (v := .pointer (some ⟨b, 0, none⟩)) e0) ?_
       exact s_fin (fun w1 hw => ⟨_, r, rfl, .refl r, ⟨hG.1, hG.2.1, hG.2.2.1, hG.2.2.2.1, hG.2.2.2.2⟩, hw, fun d hd => (by cases hd; exact rfl)⟩)
     | 1, ho =>
       obtain rfl := Option.some.inj ho
       intro b1 r g hbi hed hG hl
       have e0 : g 0 = .pointer (some ⟨b, 0, none⟩) := (hl 0 (dK (by kernel_rfl))).2 (dK (by kernel_rfl))
       refine s_val (v_move (v := .pointer (some ⟨b, 0, none⟩)) e0) ?_
       exact s_fin (fun w1 hw => ⟨_, r, rfl, .refl r, ⟨hG.1, hG.2.1, hG.2.2.1, hG.2.2.2.1, hG.2.2.2.2⟩, hw, fun d hd => (by cases hd; exact rfl)⟩)
     | 2, ho =>
       obtain rfl := Option.some.inj ho
       intro b1 r g hbi hed hG hl
       have e0 : g 0 = .pointer (some ⟨b, 0, none⟩) := (hl 0 (dK (by kernel_rfl))).2 (dK (by kernel_rfl))
       refine s_val (v_move (v := .pointer (some ⟨b, 0, none⟩)) e0) ?_
       exact s_fin (fun w1 hw => ⟨_, r, rfl, .refl r, ⟨hG.1, hG.2.1, hG.2.2.1, hG.2.2.2.1, hG.2.2.2.2⟩, hw, fun d hd => (by cases hd; exact rfl)⟩)
     | 3, ho =>
       obtain rfl := Option.some.inj ho
       intro b1 r g hbi hed hG hl
       have e6 : g 6 = .slice a41 (readM tx).length c41 := (hl 6 (dK (by kernel_rfl))).2 (dK (by kernel_rfl))
       refine s_val (v_move (v := .slice a41 (readM tx).length c41) e6) ?_
       exact s_fin (fun w1 hw => ⟨_, r, rfl, .refl r, ⟨hG.1, hG.2.1, hG.2.2.1, hG.2.2.2.1, hG.2.2.2.2⟩, hw, fun d hd => (by cases hd; exact rfl)⟩)
     | 4, ho =>
       obtain rfl := Option.some.inj ho
       intro b1 r g hbi hed hG hl
       have e47 : g 47 = .slice a41 (readM tx).length c41 := (hl 47 (dK (by kernel_rfl))).1 (dK (by kernel_rfl))
       have hhf : b1 13 = false := by cases e : b1 13 with | false => rfl | true => (have := hG.2.2.2.2 e; rw [hbi] at this; cases this)
       refine s_callG (by kernel_rfl) (replayF_mono _) (fun w1 hw => by show GivesF _ _ [g 47] w1 _; rw [e47]; exact gr_ReplayActs a41 c41 (readM tx) w1 ((hac.mono hG.1).at hw) (by have := (read_facts tx).2.1; omega)) (fun F1 v1 hF1 hR1 => ?_)
       obtain ⟨hx, rfl, hcx, hlx, _, hpx⟩ := hR1
       have hRx : hx.core = (replayM (readM tx)).1 ∧ hx.pl ≤ hx.pc ∧ PaysIn F1 hx.pa hx.pl (replayM (readM tx)).2 := ⟨hcx, hlx, hpx.mono (more_young _ _)⟩
       refine s_fin (fun w1 hw => ⟨_, ⟨F1, some hx⟩, rfl, ⟨hF1, (fun _ h => (by rw [hG.2.2.1 hbi] at h; cases h))⟩, ⟨fun a v h => hF1 a v (hG.1 a v h), hG.2.1, (fun h => (by cases h)), fun x e => (by cases e; exact hRx), fun _ => rfl⟩, ?_, fun d hd => (by cases hd; exact ⟨hx, rfl, rfl⟩)⟩)
       rw [← bgLo_call hhf (by decide) (by decide) (by decide)]; exact hw
     | 5, ho =>
       obtain rfl := Option.some.inj ho
       intro b1 r g hbi hed hG hl
       have e0 : g 0 = .pointer (some ⟨b, 0, none⟩) := (hl 0 (dK (by kernel_rfl))).2 (dK (by kernel_rfl))
       refine s_val (v_move (v := .pointer (some ⟨b, 0, none⟩)) e0) ?_
       exact s_fin (fun w1 hw => ⟨_, r, rfl, .refl r, ⟨hG.1, hG.2.1, hG.2.2.1, hG.2.2.2.1, hG.2.2.2.2⟩, hw, fun d hd => (by cases hd; exact rfl)⟩)
     | 6, ho =>
       obtain rfl := Option.some.inj ho
       intro b1 r g hbi hed hG hl
       have e49 : g 49 = .pointer (some ⟨b, 0, none⟩) := (hl 49 (dK (by kernel_rfl))).1 (dK (by kernel_rfl))
       refine s_val (v_nilCheck e49) ?_
       exact s_fin (fun w1 hw => ⟨_, r, rfl, .refl r, ⟨hG.1, hG.2.1, hG.2.2.1, hG.2.2.2.1, hG.2.2.2.2⟩, hw, fun d hd => (by cases hd; exact rfl)⟩)
     | 7, ho =>
       obtain rfl := Option.some.inj ho
       intro b1 r g hbi hed hG hl
       have e50 : g 50 = .pointer (some ⟨b, 0, none⟩) := (hl 50 (dK (by kernel_rfl))).1 (dK (by kernel_rfl))
       refine s_val (v_fd 42 (by kernel_rfl) e50) ?_
       exact s_fin (fun w1 hw => ⟨_, r, rfl, .refl r, ⟨hG.1, hG.2.1, hG.2.2.1, hG.2.2.2.1, hG.2.2.2.2⟩, hw, fun d hd => (by cases hd; exact rfl)⟩)
     | 8, ho =>
       obtain rfl := Option.some.inj ho
       intro b1 r g hbi hed hG hl
       have e51 : g 51 = .pointer (some ⟨b, 0 + 42, none⟩) := (hl 51 (dK (by kernel_rfl))).1 (dK (by kernel_rfl))
       have hf : b1 16 = false := by cases e : b1 16 with | false => rfl | true => (have := hG.2.1 e; rw [hbi] at this; cases this)
       refine s_val (v_load1 (v := S tx) (by kernel_rfl) e51 (.there (.there .here)) (by rw [bankC_text, hf]; rfl)) ?_
       exact s_fin (fun w1 hw => ⟨_, r, rfl, .refl r, ⟨hG.1, fun _ => rfl, hG.2.2.1, hG.2.2.2.1, hG.2.2.2.2⟩, hw, fun d hd => (by cases hd; exact rfl)⟩)
     | 9, ho =>
       obtain rfl := Option.some.inj ho
       intro b1 r g hbi hed hG hl
       have e7 : g 7 = I (bytesOf (readM tx)).length := (hl 7 (dK (by kernel_rfl))).2 (dK (by kernel_rfl))
       refine s_val (v_move (v := I (bytesOf (readM tx)).length) e7) ?_
       exact s_fin (fun w1 hw => ⟨_, r, rfl, .refl r, ⟨hG.1, hG.2.1, hG.2.2.1, hG.2.2.2.1, hG.2.2.2.2⟩, hw, fun d hd => (by cases hd; exact rfl)⟩)
     | 10, ho =>
       obtain rfl := Option.some.inj ho
       intro b1 r g hbi hed hG hl
       have e52 : g 52 = S tx := (hl 52 (dK (by kernel_rfl))).1 (dK (by kernel_rfl))
       have e53 : g 53 = I (bytesOf (readM tx)).length := (hl 53 (dK (by kernel_rfl))).1 (dK (by kernel_rfl))
       refine s_val ((v_strHi (f := g) (x := .tmp 52) (y := .tmp 53) (by kernel_rfl) e52 e53 ⟨by omega, by have := (read_facts tx).1; omega⟩).to (congrArg S (read_facts tx).2.2)) ?_
       exact s_fin (fun w1 hw => ⟨_, r, rfl, .refl r, ⟨hG.1, hG.2.1, hG.2.2.1, hG.2.2.2.1, hG.2.2.2.2⟩, hw, fun d hd => (by cases hd; exact rfl)⟩)
     | 11, ho =>
       obtain rfl := Option.some.inj ho
       intro b1 r g hbi hed hG hl
       have e44 : g 44 = .pointer (some ⟨b, 0, none⟩) := (hl 44 (dK (by kernel_rfl))).1 (dK (by kernel_rfl))
       refine s_val (v_nilCheck e44) ?_
       exact s_fin (fun w1 hw => ⟨_, r, rfl, .refl r, ⟨hG.1, hG.2.1, hG.2.2.1, hG.2.2.2.1, hG.2.2.2.2⟩, hw, fun d hd => (by cases hd; exact rfl)⟩)
     | 12, ho =>
       obtain rfl := Option.some.inj ho
       intro b1 r g hbi hed hG hl
       have e55 : g 55 = .pointer (some ⟨b, 0, none⟩) := (hl 55 (dK (by kernel_rfl))).1 (dK (by kernel_rfl))
       refine s_val (v_fd 0 (by kernel_rfl) e55) ?_
       exact s_fin (fun w1 hw => ⟨_, r, rfl, .refl r, ⟨hG.1, hG.2.1, hG.2.2.1, hG.2.2.2.1, hG.2.2.2.2⟩, hw, fun d hd => (by cases hd; exact rfl)⟩)
     | 13, ho =>
       obtain rfl := Option.some.inj ho
       intro b1 r g hbi hed hG hl
       have e56 : g 56 = .pointer (some ⟨b, 0 + 0, none⟩) := (hl 56 (dK (by kernel_rfl))).1 (dK (by kernel_rfl))
       have e48 : ∃ x, r.q = some x ∧ g 48 = .agg x.cells := (hl 48 (dK (by kernel_rfl))).1 (dK (by kernel_rfl))
       obtain ⟨x48, q48, e48⟩ := e48
       have hct : b1 4 = true := by cases e : b1 4 with | true => rfl | false => (have := hG.2.2.1 e; rw [q48] at this; cases this)
       refine s_storeP (m := 42) (by kernel_rfl) e56 e48 (.there (.there .here)) (by rw [bankC_size]; omega) (H.size _) (bankC_over _ _ _ _ _ _) (H.all1 _) (s_fin (fun w1 hw => ⟨undef, r, rfl, .refl r, ⟨hG.1, hG.2.1, hG.2.2.1, hG.2.2.2.1, fun _ => hct⟩, ?_, fun d hd => (by cases hd)⟩))
       rw [← bgLo_house (x := x48) rfl q48 (by decide) (by decide)]; exact hw
     | 14, ho =>
       obtain rfl := Option.some.inj ho
       intro b1 r g hbi hed hG hl
       have e45 : g 45 = .pointer (some ⟨b, 0, none⟩) := (hl 45 (dK (by kernel_rfl))).1 (dK (by kernel_rfl))
       refine s_val (v_nilCheck e45) ?_
       exact s_fin (fun w1 hw => ⟨_, r, rfl, .refl r, ⟨hG.1, hG.2.1, hG.2.2.1, hG.2.2.2.1, hG.2.2.2.2⟩, hw, fun d hd => (by cases hd; exact rfl)⟩)
     | 15, ho =>
       obtain rfl := Option.some.inj ho
       intro b1 r g hbi hed hG hl
       have e57 : g 57 = .pointer (some ⟨b, 0, none⟩) := (hl 57 (dK (by kernel_rfl))).1 (dK (by kernel_rfl))
       refine s_val (v_fd 42 (by kernel_rfl) e57) ?_
       exact s_fin (fun w1 hw => ⟨_, r, rfl, .refl r, ⟨hG.1, hG.2.1, hG.2.2.1, hG.2.2.2.1, hG.2.2.2.2⟩, hw, fun d hd => (by cases hd; exact rfl)⟩)
     | 16, ho =>
       obtain rfl := Option.some.inj ho
       intro b1 r g hbi hed hG hl
       have e58 : g 58 = .pointer (some ⟨b, 0 + 42, none⟩) := (hl 58 (dK (by kernel_rfl))).1 (dK (by kernel_rfl))
       have e54 : g 54 = S (bytesOf (readM tx)) := (hl 54 (dK (by kernel_rfl))).1 (dK (by kernel_rfl))
       have hlt : b1 8 = true := hed ⟨8, .phase⟩ (by simp) rfl
       refine s_store1 (v := S (bytesOf (readM tx))) (by kernel_rfl) e58 e54 (.there (.there .here)) (bankC_setText _ _ _ _ _) rfl ?_
       exact s_fin (fun w1 hw => ⟨undef, r, rfl, .refl r, ⟨hG.1, fun _ => hlt, hG.2.2.1, hG.2.2.2.1, hG.2.2.2.2⟩, hw, fun d hd => (by cases hd)⟩)
     | 17, ho =>
       obtain rfl := Option.some.inj ho
       intro b1 r g hbi hed hG hl
       have e46 : g 46 = .pointer (some ⟨b, 0, none⟩) := (hl 46 (dK (by kernel_rfl))).1 (dK (by kernel_rfl))
       refine s_val (v_nilCheck e46) ?_
       exact s_fin (fun w1 hw => ⟨_, r, rfl, .refl r, ⟨hG.1, hG.2.1, hG.2.2.1, hG.2.2.2.1, hG.2.2.2.2⟩, hw, fun d hd => (by cases hd; exact rfl)⟩)
     | 18, ho =>
       obtain rfl := Option.some.inj ho
       intro b1 r g hbi hed hG hl
       have e59 : g 59 = .pointer (some ⟨b, 0, none⟩) := (hl 59 (dK (by kernel_rfl))).1 (dK (by kernel_rfl))
       refine s_val (v_fd 43 (by kernel_rfl) e59) ?_
       exact s_fin (fun w1 hw => ⟨_, r, rfl, .refl r, ⟨hG.1, hG.2.1, hG.2.2.1, hG.2.2.2.1, hG.2.2.2.2⟩, hw, fun d hd => (by cases hd; exact rfl)⟩)
     | 19, ho =>
       obtain rfl := Option.some.inj ho
       intro b1 r g hbi hed hG hl
       have e60 : g 60 = .pointer (some ⟨b, 0 + 43, none⟩) := (hl 60 (dK (by kernel_rfl))).1 (dK (by kernel_rfl))
       refine s_store1 (v := .bool false) (by kernel_rfl) e60 rfl (.there (.there .here)) (bankC_setDown _ _ _ _ _) rfl ?_
       exact s_fin (fun w1 hw => ⟨undef, r, rfl, .refl r, ⟨hG.1, hG.2.1, hG.2.2.1, hG.2.2.2.1, hG.2.2.2.2⟩, hw, fun d hd => (by cases hd)⟩)
     | n + 20, ho => cases ho
   intro b30 r30 g hall hG hd he
   obtain ⟨hm1, _, _, hh1, _⟩ := hG
   obtain ⟨hx, hqf, _⟩ : ∃ x, r30.q = some x ∧ g 48 = .agg x.cells := hd 48 (dK (by kernel_rfl))
   obtain ⟨hcx, hlx, hpx⟩ := hh1 hx hqf
   have hmr2 : More F r30.F := fun a v h => hm1 a v (hF41 a v h)
   rw [bgLo_all hqf (hall 13 (by decide)) (hall 16 (by decide)) (.inl (hall 19 (by decide)))]
   have e4 : g 4 = .pointer (some ⟨b4, 0, none⟩) := he 4 (dK (by kernel_rfl))
   have e6 : g 6 = .slice a41 (readM tx).length c41 := he 6 (dK (by kernel_rfl))
   obtain ⟨g1, hg1⟩ : ∃ g1, g = (upd (upd g1 4 (.pointer (some ⟨b4, 0, none⟩))) 6 (.slice a41 (readM tx).length c41)) := ⟨g, live2 e4 e6⟩
   rw [hg1]
   refine r_seq (by kernel_rfl) (s_val (v_move (v := .slice _ _ _) rfl) (s_val (v_lenS (T := 22) (m := 5) (by kernel_rfl) rfl rfl) (s_val (v_build (vs := [(1, .int .i64 _)]) (cs := repC 0 (readM tx).length (.slice none 0 0)) rfl (by kernel_rfl)) (s_storeA (m := 3) (by kernel_rfl) rfl rfl .here rfl rfl rep_all (s_nil (c_ret (n_ret ?_)))))))
   have q1 : decide (na = 200) = false := decide_eq_false (by have := of_decide_eq_false h16; omega)
   have q2 : decide (a.kind = 11) = true := decide_eq_true (by have := of_decide_eq_true h28; omega)
   have q3 : dn = true := h33
   refine n_doneWC (B' := [(b, .cells (bankC hx (bytesOf (readM tx)) false (fl) ((na + 1 : Nat))) 46 (0, 0))]) (m := 3) rfl (by decide) rfl (by kernel_rfl) .here rep_size (hmr2) (fun w1 hw => by exact hw.sub (List.Sublist.cons _ (List.Sublist.cons _ (List.Sublist.cons_cons _ (List.Sublist.refl _))))) ?_
   simp only [doM, q1, q2, q3, cond_true, cond_false, Bool.not_true, Bool.not_false, Bool.or_true, Bool.true_or, Bool.or_false, Bool.false_or]
   exact ⟨none, 0, rfl, .inl rfl, hx, rfl, hcx, hpx, hlx⟩
 refine c_skip (n_then (c_seq (r_seq (by kernel_rfl) (s_val (v_move (v := .pointer _) rfl) (s_val (v_nilCheck rfl) (s_val (v_fd 43 (by kernel_rfl) rfl) (s_val (v_load1 (v := .bool _) (by kernel_rfl) rfl (.there (.there .here)) (bankC_down _ _ _ _ _)) (s_nil (c_cond rfl rfl (fun h67 => ?_) (fun h67 => ?_))))))))))
 · refine r_seq (by kernel_rfl) (s_val (v_move (v := .func _ _ _) rfl) (s_callC (k := 22) (caps := []) rfl (by kernel_rfl) (fun w hw => gr_noB 7 w) (s_storeA (m := 3) (by kernel_rfl) rfl rfl .here rfl rfl rep_all (s_nil (c_ret (n_ret ?_))))))
   have q1 : decide (na = 200) = false := decide_eq_false (by have := of_decide_eq_false h16; omega)
   have q2 : decide (a.kind = 11) = false := decide_eq_false (by have := of_decide_eq_false h28; omega)
   have q3 : dn = true := h67
   refine n_doneWC (B' := [(b, .cells (bankC h (tx) dn (fl) ((na + 1 : Nat))) 46 (0, 0))]) (m := 3) rfl (by decide) rfl (by kernel_rfl) .here rep_size (fun _ _ h => h) (fun w1 hw => by exact hw.sub (List.Sublist.cons _ (List.Sublist.cons _ (List.Sublist.cons_cons _ (List.Sublist.refl _))))) ?_
   simp only [doM, q1, q2, q3, cond_true, cond_false, Bool.not_true, Bool.not_false, Bool.or_true, Bool.true_or, Bool.or_false, Bool.false_or]
   exact ⟨none, 0, rfl, .inl rfl, h, rfl, rfl, hp, hlc⟩
 refine c_skip (n_then (c_seq (r_seq (by kernel_rfl) (s_val (v_fd 0 (by kernel_rfl) rfl) (s_val (v_ldI (by kernel_rfl) rfl (.there .here) rfl) (s_val (v_eql (k := .i64) rfl rfl) (s_nil (c_cond rfl rfl (fun h72 => ?_) (fun h72 => ?_)))))))))
 · refine c_seq (r_seq (by kernel_rfl) (s_val (v_fd 4 (by kernel_rfl) rfl) (s_val (v_ldI (by kernel_rfl) rfl (.there .here) rfl) (s_call (by kernel_rfl) (fun w hw => gr_within _ _ _ w) (s_val (v_not rfl) (s_nil (c_condN rfl rfl (fun h76 => ?_) (fun h76 => ?_))))))))
   · refine r_seq (by kernel_rfl) (s_val (v_move (v := .func _ _ _) rfl) (s_callC (k := 22) (caps := []) rfl (by kernel_rfl) (fun w hw => gr_noB 3 w) (s_storeA (m := 3) (by kernel_rfl) rfl rfl .here rfl rfl rep_all (s_nil (c_ret (n_ret (n_ret ?_)))))))
     have q1 : decide (na = 200) = false := decide_eq_false (by have := of_decide_eq_false h16; omega)
     have q2 : decide (a.kind = 11) = false := decide_eq_false (by have := of_decide_eq_false h28; omega)
     have q3 : dn = false := h67
     have q4 : decide (a.kind = 10) = true := decide_eq_true (by have := of_decide_eq_true h72; omega)
     have q5 : withinB a.n 0 4000 = false := h76
     refine n_doneWC (B' := [(b, .cells (bankC h (tx) dn (fl) ((na + 1 : Nat))) 46 (0, 0))]) (m := 3) rfl (by decide) rfl (by kernel_rfl) .here rep_size (fun _ _ h => h) (fun w1 hw => by exact hw.sub (List.Sublist.cons _ (List.Sublist.cons _ (List.Sublist.cons_cons _ (List.Sublist.refl _))))) ?_
     simp only [doM, q1, q2, q3, q4, q5, cond_true, cond_false, Bool.not_true, Bool.not_false, Bool.or_true, Bool.true_or, Bool.or_false, Bool.false_or]
     exact ⟨none, 0, rfl, .inl rfl, h, rfl, rfl, hp, hlc⟩
   refine c_skip (n_then (r_seq (by kernel_rfl) (s_val (v_move (v := .pointer _) rfl) (s_val (v_fd 4 (by kernel_rfl) rfl) (s_val (v_ldI (by kernel_rfl) rfl (.there .here) rfl) (s_val (v_nilCheck rfl) (s_val (v_fd 44 (by kernel_rfl) rfl) (s_store1 (v := .int .i64 _) (by kernel_rfl) rfl rfl (.there (.there .here)) (bankC_setFail _ _ _ _ _) rfl (s_nil (r_seq (by kernel_rfl) (s_val (v_move (v := .func _ _ _) rfl) (s_callC (k := 22) (caps := []) rfl (by kernel_rfl) (fun w hw => gr_noB 0 w) (s_storeA (m := 3) (by kernel_rfl) rfl rfl .here rfl rfl rep_all (s_nil (c_ret (n_ret ?_))))))))))))))))
   have q1 : decide (na = 200) = false := decide_eq_false (by have := of_decide_eq_false h16; omega)
   have q2 : decide (a.kind = 11) = false := decide_eq_false (by have := of_decide_eq_false h28; omega)
   have q3 : dn = false := h67
   have q4 : decide (a.kind = 10) = true := decide_eq_true (by have := of_decide_eq_true h72; omega)
   have q5 : withinB a.n 0 4000 = true := h76
   refine n_doneWC (B' := [(b, .cells (bankC h (tx) dn (a.n) ((na + 1 : Nat))) 46 (0, 0))]) (m := 3) rfl (by decide) rfl (by kernel_rfl) .here rep_size (fun _ _ h => h) (fun w1 hw => by exact hw.sub (List.Sublist.cons _ (List.Sublist.cons _ (List.Sublist.cons_cons _ (List.Sublist.refl _))))) ?_
   simp only [doM, q1, q2, q3, q4, q5, cond_true, cond_false, Bool.not_true, Bool.not_false, Bool.or_true, Bool.true_or, Bool.or_false, Bool.false_or]
   exact ⟨none, 0, rfl, .inl rfl, h, rfl, rfl, hp, hlc⟩
 refine c_skip (n_then (d_gen (ρ := DG) (Fo := fun r => r.F) (Lo := (dgLo 43 31 (nextM h.core ps a).code (nextM h.core ps a).n (nextM h.core ps a).done.length ((b4, .cells ((repC 0 0 (.slice none 0 0))) 31) :: (b3, .cells a.cells 34) :: (b, .cells (bankC h (tx) dn (fl) ((na + 1 : Nat))) 46 (0, 0)) :: K))) (G := dgG F (fun F1 (k : H) (y : Option Addr) (z : Nat) => k.core = (nextM h.core ps a).c ∧ k.pl ≤ k.pc ∧ ((k.pa = h.pa ∧ k.pl = h.pl ∧ (nextM h.core ps a).ps = ps) ∨ PaysIn F1 k.pa k.pl (nextM h.core ps a).ps) ∧ IntsAt F1 y (nextM h.core ps a).done)) (le := DG.Le) (Ψ := (psi18 b h a (nextM h.core ps a).code (nextM h.core ps a).n (nextM h.core ps a).done.length)) (by kernel_rfl) (by kernel_rfl) (by kernel_rfl) ⟨F, none, none, none⟩ rfl rfl ⟨fun _ _ h => h, fun _ => rfl, fun _ => rfl, fun _ => rfl, (fun _ _ _ h => (by cases h)), (fun h => (by cases h)), (fun h => (by cases h))⟩ psi18_stab ?_ ?_))
 · intro i o ho
   match i, ho with
   | 0, ho =>
     obtain rfl := Option.some.inj ho
     intro b1 r g hbi hed hG hl
     have e0 : g 0 = .pointer (some ⟨b, 0, none⟩) := (hl 0 (dK (by kernel_rfl))).2 (dK (by kernel_rfl))
     refine s_val (v_move (v := .pointer (some ⟨b, 0, none⟩)) e0) ?_
     exact s_fin (fun w1 hw => ⟨_, r, rfl, .refl r, ⟨hG.more, hG.b8, hG.b9, hG.q, hG.has, hG.h11, hG.h12⟩, hw, fun d hd => (by cases hd; exact rfl)⟩)
   | 1, ho =>
     obtain rfl := Option.some.inj ho
     intro b1 r g hbi hed hG hl
     have e87 : g 87 = .pointer (some ⟨b, 0, none⟩) := (hl 87 (dK (by kernel_rfl))).1 (dK (by kernel_rfl))
     refine s_val (v_nilCheck e87) ?_
     exact s_fin (fun w1 hw => ⟨_, r, rfl, .refl r, ⟨hG.more, hG.b8, hG.b9, hG.q, hG.has, hG.h11, hG.h12⟩, hw, fun d hd => (by cases hd; exact rfl)⟩)
   | 2, ho =>
     obtain rfl := Option.some.inj ho
     intro b1 r g hbi hed hG hl
     have e88 : g 88 = .pointer (some ⟨b, 0, none⟩) := (hl 88 (dK (by kernel_rfl))).1 (dK (by kernel_rfl))
     refine s_val (v_fd 0 (by kernel_rfl) e88) ?_
     exact s_fin (fun w1 hw => ⟨_, r, rfl, .refl r, ⟨hG.more, hG.b8, hG.b9, hG.q, hG.has, hG.h11, hG.h12⟩, hw, fun d hd => (by cases hd; exact rfl)⟩)
   | 3, ho =>
     obtain rfl := Option.some.inj ho
     intro b1 r g hbi hed hG hl
     have e89 : g 89 = .pointer (some ⟨b, 0 + 0, none⟩) := (hl 89 (dK (by kernel_rfl))).1 (dK (by kernel_rfl))
     refine s_val (v_loadN (m := 42) (cs' := h.cells) (by kernel_rfl) e89 (.app (.app (.there (.there .here)))) (H.size _) (bankC_house _ _ _ _ _)) ?_
     exact s_fin (fun w1 hw => ⟨_, r, rfl, .refl r, ⟨hG.more, hG.b8, hG.b9, hG.q, hG.has, hG.h11, hG.h12⟩, hw, fun d hd => (by cases hd; exact rfl)⟩)
   | 4, ho =>
     obtain rfl := Option.some.inj ho
     intro b1 r g hbi hed hG hl
     have e3 : g 3 = .pointer (some ⟨b3, 0, none⟩) := (hl 3 (dK (by kernel_rfl))).2 (dK (by kernel_rfl))
     refine s_val (v_loadA (m := 5) (by kernel_rfl) e3 (.app (.app (.there .here))) rfl) ?_
     exact s_fin (fun w1 hw => ⟨_, r, rfl, .refl r, ⟨hG.more, hG.b8, hG.b9, hG.q, hG.has, hG.h11, hG.h12⟩, hw, fun d hd => (by cases hd; exact rfl)⟩)
   | 5, ho =>
     obtain rfl := Option.some.inj ho
     intro b1 r g hbi hed hG hl
     have e90 : g 90 = .agg h.cells := (hl 90 (dK (by kernel_rfl))).1 (dK (by kernel_rfl))
     have e91 : g 91 = .agg a.cells := (hl 91 (dK (by kernel_rfl))).1 (dK (by kernel_rfl))
     have h11f : b1 11 = false := by cases e : b1 11 with | false => rfl | true => (have := (hG.h11 e).2; rw [hbi] at this; cases this)
     have h12f : b1 12 = false := by cases e : b1 12 with | false => rfl | true => (have := (hG.h12 e).2; rw [hbi] at this; cases this)
     refine s_callG (by kernel_rfl) (nextF_mono _ _ _) (fun w1 hw => by show GivesF _ _ [g 90, g 91] w1 _; rw [e90, e91]; exact gr_NextHouse h ps a w1 ((hp.mono hG.more).at hw) hb hlc) (fun F92 v92 hF92 hR92 => ?_)
     obtain ⟨u1, u2, rfl, ⟨hx, rfl, hhx⟩, ax, cx, rfl, hix⟩ := hR92
     refine s_fin (fun w1 hw => ⟨_, ⟨F92, r.b8, r.b9, some (hx, ax, cx)⟩, rfl, ⟨hF92, fun _ h => h, fun _ h => h, (fun _ h => (by rw [hG.q hbi] at h; cases h))⟩, ⟨fun a v h => hF92 a v (hG.more a v h), hG.b8, hG.b9, (fun h => (by cases h)), fun k y z e => (by cases e; exact ⟨hhx.1, hhx.2.1, hhx.2.2.imp id (fun q => q.mono (more_young _ _)), hix.mono (more_young _ _)⟩), fun h => ⟨(hG.h11 h).1, rfl⟩, fun h => ⟨(hG.h12 h).1, rfl⟩⟩, ?_, fun d hd => (by cases hd; exact ⟨hx, ax, cx, rfl, rfl⟩)⟩)
     rw [← dgLo_call h11f h12f]; exact hw
   | 6, ho =>
     obtain rfl := Option.some.inj ho
     intro b1 r g hbi hed hG hl
     have e92 : ∃ x y z, r.q = some (x, y, z) ∧ g 92 = .tuple #[.agg x.cells, .agg (repC (nextM h.core ps a).code (nextM h.core ps a).n (.slice y (nextM h.core ps a).done.length z))] := (hl 92 (dK (by kernel_rfl))).1 (dK (by kernel_rfl))
     obtain ⟨x1, y1, z1, q1, e92⟩ := e92
     refine s_val (v_move (v := .tuple _) e92) ?_
     exact s_fin (fun w1 hw => ⟨_, r, rfl, .refl r, ⟨hG.more, hG.b8, hG.b9, hG.q, hG.has, hG.h11, hG.h12⟩, hw, fun d hd => (by cases hd; exact ⟨x1, y1, z1, q1, rfl⟩)⟩)
   | 7, ho =>
     obtain rfl := Option.some.inj ho
     intro b1 r g hbi hed hG hl
     have e86 : ∃ x y z, r.q = some (x, y, z) ∧ g 86 = .tuple #[.agg x.cells, .agg (repC (nextM h.core ps a).code (nextM h.core ps a).n (.slice y (nextM h.core ps a).done.length z))] := (hl 86 (dK (by kernel_rfl))).1 (dK (by kernel_rfl))
     obtain ⟨x1, y1, z1, q1, e86⟩ := e86
     refine s_val (v_extract e86 rfl) ?_
     exact s_fin (fun w1 hw => ⟨_, r, rfl, .refl r, ⟨hG.more, hG.b8, hG.b9, hG.q, hG.has, hG.h11, hG.h12⟩, hw, fun d hd => (by cases hd; exact ⟨x1, y1, z1, q1, rfl⟩)⟩)
   | 8, ho =>
     obtain rfl := Option.some.inj ho
     intro b1 r g hbi hed hG hl
     have e86 : ∃ x y z, r.q = some (x, y, z) ∧ g 86 = .tuple #[.agg x.cells, .agg (repC (nextM h.core ps a).code (nextM h.core ps a).n (.slice y (nextM h.core ps a).done.length z))] := (hl 86 (dK (by kernel_rfl))).1 (dK (by kernel_rfl))
     obtain ⟨x1, y1, z1, q1, e86⟩ := e86
     refine s_val (v_extract e86 rfl) ?_
     exact s_fin (fun w1 hw => ⟨_, r, rfl, .refl r, ⟨hG.more, hG.b8, hG.b9, hG.q, hG.has, hG.h11, hG.h12⟩, hw, fun d hd => (by cases hd; exact ⟨x1, y1, z1, q1, rfl⟩)⟩)
   | 9, ho =>
     obtain rfl := Option.some.inj ho
     intro b1 r g hbi hed hG hl
     have h11f : b1 11 = false := by cases e : b1 11 with | false => rfl | true => (have := (hG.h11 e).1; rw [hbi] at this; cases this)
     refine s_alloc (z := .agg zeroH.cells) (by kernel_rfl) (fun bn => ?_)
     exact s_fin (fun w1 hw => ⟨_, ⟨r.F, some bn, r.b9, r.q⟩, rfl, ⟨fun _ _ h => h, (fun _ h => (by rw [hG.b8 hbi] at h; cases h)), fun _ h => h, fun _ h => h⟩, ⟨hG.more, (fun h => (by cases h)), hG.b9, hG.q, hG.has, fun h => ⟨rfl, (hG.h11 h).2⟩, hG.h12⟩, hw.perm (dgLo_alloc8 (hG.b8 hbi) h11f bn), fun d hd => (by cases hd; exact ⟨bn, rfl, rfl⟩)⟩)
   | 10, ho =>
     obtain rfl := Option.some.inj ho
     intro b1 r g hbi hed hG hl
     have h12f : b1 12 = false := by cases e : b1 12 with | false => rfl | true => (have := (hG.h12 e).1; rw [hbi] at this; cases this)
     refine s_alloc (z := .agg (repC 0 0 (.slice none 0 0))) (by kernel_rfl) (fun bn => ?_)
     refine s_fin (fun w1 hw => ⟨_, ⟨r.F, r.b8, some bn, r.q⟩, rfl, ⟨fun _ _ h => h, fun _ h => h, (fun _ h => (by rw [hG.b9 hbi] at h; cases h)), fun _ h => h⟩, ⟨hG.more, hG.b8, (fun h => (by cases h)), hG.q, hG.has, hG.h11, fun h => ⟨rfl, (hG.h12 h).2⟩⟩, ?_, fun d hd => (by cases hd; exact ⟨bn, rfl, rfl⟩)⟩)
     rw [← dgLo_alloc9 (hG.b9 hbi) h12f bn]; exact hw
   | 11, ho =>
     obtain rfl := Option.some.inj ho
     intro b1 r g hbi hed hG hl
     have e8 : ∃ x, r.b8 = some x ∧ g 8 = .pointer (some ⟨x, 0, none⟩) := (hl 8 (dK (by kernel_rfl))).1 (dK (by kernel_rfl))
     have e93 : ∃ x y z, r.q = some (x, y, z) ∧ g 93 = .agg x.cells := (hl 93 (dK (by kernel_rfl))).1 (dK (by kernel_rfl))
     obtain ⟨bx, qb, e8⟩ := e8
     obtain ⟨x1, y1, z1, q1, e93⟩ := e93
     have hed9 : b1 9 = true := by cases e : b1 9 with | true => rfl | false => (have := hG.b8 e; rw [qb] at this; cases this)
     have hed5 : b1 5 = true := by cases e : b1 5 with | true => rfl | false => (have := hG.q e; rw [q1] at this; cases this)
     refine s_weak (fun w1 hw => (show Has w r.F _ w1 from (by rw [dgLo_b8 qb hbi] at hw; exact hw))) (s_storeA (m := 42) (by kernel_rfl) e8 e93 (.app .here) (H.size _) (H.size _) (H.all1 _) (s_fin (fun w1 hw => ⟨undef, r, rfl, .refl r, ⟨hG.more, hG.b8, hG.b9, hG.q, hG.has, fun _ => ⟨hed9, hed5⟩, hG.h12⟩, ?_, fun d hd => (by cases hd)⟩)))
     rw [← dgLo_st8 qb q1]; exact hw
   | 12, ho =>
     obtain rfl := Option.some.inj ho
     intro b1 r g hbi hed hG hl
     have e9 : ∃ x, r.b9 = some x ∧ g 9 = .pointer (some ⟨x, 0, none⟩) := (hl 9 (dK (by kernel_rfl))).1 (dK (by kernel_rfl))
     have e94 : ∃ x y z, r.q = some (x, y, z) ∧ g 94 = .agg (repC (nextM h.core ps a).code (nextM h.core ps a).n (.slice y (nextM h.core ps a).done.length z)) := (hl 94 (dK (by kernel_rfl))).1 (dK (by kernel_rfl))
     obtain ⟨bx, qb, e9⟩ := e9
     obtain ⟨x1, y1, z1, q1, e94⟩ := e94
     have hed10 : b1 10 = true := by cases e : b1 10 with | true => rfl | false => (have := hG.b9 e; rw [qb] at this; cases this)
     have hed5 : b1 5 = true := by cases e : b1 5 with | true => rfl | false => (have := hG.q e; rw [q1] at this; cases this)
     refine s_weak (fun w1 hw => (show Has w r.F _ w1 from (by rw [dgLo_b9 qb hbi] at hw; exact hw))) (s_storeA (m := 3) (by kernel_rfl) e9 e94 .here rep_size rep_size rep_all (s_fin (fun w1 hw => ⟨undef, r, rfl, .refl r, ⟨hG.more, hG.b8, hG.b9, hG.q, hG.has, hG.h11, fun _ => ⟨hed10, hed5⟩⟩, ?_, fun d hd => (by cases hd)⟩)))
     rw [← dgLo_st9 qb q1]; exact hw
   | n + 13, ho => cases ho
 intro b18 r18 g hall hG hd he
 obtain ⟨b8, q8, e8⟩ : ∃ x, r18.b8 = some x ∧ g 8 = .pointer (some ⟨x, 0, none⟩) := hd 8 (dK (by kernel_rfl))
 obtain ⟨b9, q9, e9⟩ : ∃ x, r18.b9 = some x ∧ g 9 = .pointer (some ⟨x, 0, none⟩) := hd 9 (dK (by kernel_rfl))
 obtain ⟨hx, ax, cx, qq, _⟩ : ∃ x y z, r18.q = some (x, y, z) ∧ g 93 = .agg x.cells := hd 93 (dK (by kernel_rfl))
 obtain ⟨hcx, hlx, hox, hix⟩ := hG.has _ _ _ qq
 have hmr := hG.more
 rw [dgLo_all q8 q9 qq (hall 11 (by decide)) (hall 12 (by decide))]
 have e0 : g 0 = .pointer (some ⟨b, 0, none⟩) := he 0 (dK (by kernel_rfl))
 have e3 : g 3 = .pointer (some ⟨b3, 0, none⟩) := he 3 (dK (by kernel_rfl))
 have e4 : g 4 = .pointer (some ⟨b4, 0, none⟩) := he 4 (dK (by kernel_rfl))
 have e5 : g 5 = .func (.func 22) #[] #[] := he 5 (dK (by kernel_rfl))
 obtain ⟨g1, hg1⟩ : ∃ g1, g = (upd (upd (upd (upd (upd (upd g1 0 (.pointer (some ⟨b, 0, none⟩))) 3 (.pointer (some ⟨b3, 0, none⟩))) 4 (.pointer (some ⟨b4, 0, none⟩))) 5 (.func (.func 22) #[] #[])) 8 (.pointer (some ⟨b8, 0, none⟩))) 9 (.pointer (some ⟨b9, 0, none⟩))) := ⟨g, live6 e0 e3 e4 e5 e8 e9⟩
 rw [hg1]
 refine c_seq (r_seq (by kernel_rfl) (s_val (v_fd 0 (by kernel_rfl) rfl) (s_val (v_ldI (by kernel_rfl) rfl .here rfl) (s_val (v_neq (k := .i64) rfl rfl) (s_nil (c_condN rfl rfl (fun h97 => ?_) (fun h97 => ?_)))))))
 · refine r_seq (by kernel_rfl) (s_val (v_loadA (m := 3) (by kernel_rfl) rfl .here rfl) (s_storeA (m := 3) (by kernel_rfl) rfl rfl (.there (.there .here)) rfl rfl rep_all (s_nil (c_ret (n_ret ?_)))))
   have q1 : decide (na = 200) = false := decide_eq_false (by have := of_decide_eq_false h16; omega)
   have q2 : decide (a.kind = 11) = false := decide_eq_false (by have := of_decide_eq_false h28; omega)
   have q3 : dn = false := h67
   have q4 : decide (a.kind = 10) = false := decide_eq_false (by have := of_decide_eq_false h72; omega)
   have q6 : decide ((nextM h.core ps a).code = 0) = false := decide_eq_false (by have := of_decide_eq_false h97; omega)
   refine n_doneWC (B' := [(b, .cells (bankC h (tx) dn (fl) ((na + 1 : Nat))) 46 (0, 0))]) (m := 3) rfl (by decide) rfl (by kernel_rfl) (.there (.there .here)) rep_size (hmr) (fun w1 hw => by exact hw.sub (List.Sublist.cons _ (List.Sublist.cons _ (List.Sublist.cons _ (List.Sublist.cons _ (List.Sublist.cons_cons _ (List.Sublist.refl _))))))) ?_
   simp only [doM, q1, q2, q3, q4, q6, cond_true, cond_false, Bool.not_true, Bool.not_false, Bool.or_true, Bool.true_or, Bool.or_false, Bool.false_or]
   exact ⟨ax, cx, rfl, hix, h, rfl, rfl, hp.mono hmr, hlc⟩
 refine c_skip (n_then (r_seq (by kernel_rfl) (s_val (v_loadA (m := 5) (by kernel_rfl) rfl (.there (.there (.there .here))) rfl) (s_call (by kernel_rfl) (fun w hw => gr_FrameOf a w) (s_val (v_move (v := .tuple _) rfl) (s_val (v_extract rfl rfl) (s_val (v_extract rfl rfl) (s_val (v_assign (v := S _) rfl) (s_val (v_asI rfl) (s_nil (c_seq (r_seq (by kernel_rfl) (s_val (v_mvI rfl) (s_val (v_neq (k := .i64) rfl rfl) (s_nil (c_condN rfl rfl (fun h105 => ?_) (fun h105 => ?_)))))))))))))))))
 · refine r_seq (by kernel_rfl) (s_val (v_move (v := .func _ _ _) rfl) (s_val (v_mvI rfl) (s_callC (k := 22) (caps := []) rfl (by kernel_rfl) (fun w hw => gr_noB (fErr a) w) (s_storeA (m := 3) (by kernel_rfl) rfl rfl (.there (.there .here)) rfl rfl rep_all (s_nil (c_ret (n_ret ?_)))))))
   have q1 : decide (na = 200) = false := decide_eq_false (by have := of_decide_eq_false h16; omega)
   have q2 : decide (a.kind = 11) = false := decide_eq_false (by have := of_decide_eq_false h28; omega)
   have q3 : dn = false := h67
   have q4 : decide (a.kind = 10) = false := decide_eq_false (by have := of_decide_eq_false h72; omega)
   have q6 : decide ((nextM h.core ps a).code = 0) = true := decide_eq_true (by have := of_decide_eq_true h97; omega)
   have q7 : noted a = false := frame_code.2 (of_decide_eq_false h105)
   refine n_doneWC (B' := [(b, .cells (bankC h (tx) dn (fl) ((na + 1 : Nat))) 46 (0, 0))]) (m := 3) rfl (by decide) rfl (by kernel_rfl) (.there (.there .here)) rep_size (hmr) (fun w1 hw => by exact hw.sub (List.Sublist.cons _ (List.Sublist.cons _ (List.Sublist.cons _ (List.Sublist.cons _ (List.Sublist.cons_cons _ (List.Sublist.refl _))))))) ?_
   simp only [doM, q1, q2, q3, q4, q6, q7, cond_true, cond_false, Bool.not_true, Bool.not_false, Bool.or_true, Bool.true_or, Bool.or_false, Bool.false_or]
   exact ⟨none, 0, by rw [fErr_no q7]; rfl, .inl rfl, h, rfl, rfl, hp.mono hmr, hlc⟩
 refine c_skip (n_then (c_seq (r_seq (by kernel_rfl) (s_val (v_move (v := .pointer _) rfl) (s_val (v_nilCheck rfl) (s_val (v_fd 42 (by kernel_rfl) rfl) (s_val (v_load1 (v := .string _) (by kernel_rfl) rfl (.there (.there (.there (.there .here)))) (bankC_text _ _ _ _ _)) (s_val (v_strLen (by kernel_rfl) rfl rfl) (s_val (v_move (v := S _) rfl) (s_val (v_strLen (by kernel_rfl) rfl rfl) (s_val (v_add rfl rfl (by omega)) (s_val (v_gtr (k := .i64) rfl rfl) (s_nil (c_cond rfl rfl (fun h117 => ?_) (fun h117 => ?_)))))))))))))))
 · refine r_seq (by kernel_rfl) (s_val (v_move (v := .func _ _ _) rfl) (s_callC (k := 22) (caps := []) rfl (by kernel_rfl) (fun w hw => gr_noB 5 w) (s_storeA (m := 3) (by kernel_rfl) rfl rfl (.there (.there .here)) rfl rfl rep_all (s_nil (c_ret (n_ret ?_))))))
   have q1 : decide (na = 200) = false := decide_eq_false (by have := of_decide_eq_false h16; omega)
   have q2 : decide (a.kind = 11) = false := decide_eq_false (by have := of_decide_eq_false h28; omega)
   have q3 : dn = false := h67
   have q4 : decide (a.kind = 10) = false := decide_eq_false (by have := of_decide_eq_false h72; omega)
   have q6 : decide ((nextM h.core ps a).code = 0) = true := decide_eq_true (by have := of_decide_eq_true h97; omega)
   have q7 : noted a = true := frame_code.1 (of_decide_eq_true h105)
   have q8 : decide (4000 < tx.length + (frameOf a).length) = true := decide_eq_true (by have := of_decide_eq_true h117; rw [fText_yes q7] at this; omega)
   refine n_doneWC (B' := [(b, .cells (bankC h (tx) dn (fl) ((na + 1 : Nat))) 46 (0, 0))]) (m := 3) rfl (by decide) rfl (by kernel_rfl) (.there (.there .here)) rep_size (hmr) (fun w1 hw => by exact hw.sub (List.Sublist.cons _ (List.Sublist.cons _ (List.Sublist.cons _ (List.Sublist.cons _ (List.Sublist.cons_cons _ (List.Sublist.refl _))))))) ?_
   simp only [doM, q1, q2, q3, q4, q6, q7, q8, cond_true, cond_false, Bool.not_true, Bool.not_false, Bool.or_true, Bool.true_or, Bool.or_false, Bool.false_or]
   exact ⟨none, 0, rfl, .inl rfl, h, rfl, rfl, hp.mono hmr, hlc⟩
 refine c_skip (n_then (c_seq (r_seq (by kernel_rfl) (s_val (v_move (v := .pointer _) rfl) (s_val (v_nilCheck rfl) (s_val (v_fd 44 (by kernel_rfl) rfl) (s_val (v_ldI (by kernel_rfl) rfl (.there (.there (.there (.there .here)))) (bankC_fail _ _ _ _ _)) (s_val (v_geq (k := .i64) rfl rfl) (s_nil (c_cond rfl rfl (fun h124 => ?_) (fun h124 => ?_)))))))))))
 · refine t_seq (k := 16) (by kernel_rfl) (by kernel_rfl) (fun w hw => hw.drew) (by kernel_rfl) (q_val (v_move (v := .pointer _) rfl) (q_val (v_nilCheck rfl) (q_val (v_fd 42 (by kernel_rfl) rfl) (q_val (v_load1 (v := .string _) (by kernel_rfl) rfl (.there (.there (.there (.there .here)))) (bankC_text _ _ _ _ _)) (q_val (v_move (v := S _) rfl) (q_val (v_move (v := S _) rfl) (q_val (v_strLen (by kernel_rfl) rfl rfl) (q_val (v_move (v := .pointer _) rfl) (q_val (v_nilCheck rfl) (q_val (v_fd 44 (by kernel_rfl) rfl) (q_val (v_ldI (by kernel_rfl) rfl (.there (.there (.there (.there .here)))) (bankC_fail _ _ _ _ _)) (q_val (v_min rfl rfl) (q_val (v_strHi (by kernel_rfl) rfl rfl (by have := of_decide_eq_true h124; unfold minI; split <;> omega)) (q_val (v_strAdd rfl rfl (by simp only [List.length_take]; omega)) (q_val (v_nilCheck rfl) (q_val (v_fd 42 (by kernel_rfl) rfl) (q_tail (s_store1 (v := .string _) (by kernel_rfl) rfl rfl (.there (.there (.there (.there .here)))) (bankC_setText _ _ _ _ _) rfl (s_nil ?_)))))))))))))))))))
   refine r_seq (by kernel_rfl) (s_val (v_move (v := .pointer _) rfl) (s_val (v_move (v := .pointer _) rfl) (s_val (v_nilCheck rfl) (s_val (v_fd 43 (by kernel_rfl) rfl) (s_store1 (v := .bool _) (by kernel_rfl) rfl rfl (.there (.there (.there (.there .here)))) (bankC_setDown _ _ _ _ _) rfl (s_val (v_nilCheck rfl) (s_val (v_fd 44 (by kernel_rfl) rfl) (s_store1 (v := .int .i64 _) (by kernel_rfl) rfl rfl (.there (.there (.there (.there .here)))) (bankC_setFail _ _ _ _ _) rfl (s_nil (r_seq (by kernel_rfl) (s_val (v_move (v := .func _ _ _) rfl) (s_callC (k := 22) (caps := []) rfl (by kernel_rfl) (fun w hw => gr_noB 7 w) (s_storeA (m := 3) (by kernel_rfl) rfl rfl (.there (.there .here)) rfl rfl rep_all (s_nil (c_ret (n_ret ?_))))))))))))))))
   have q1 : decide (na = 200) = false := decide_eq_false (by have := of_decide_eq_false h16; omega)
   have q2 : decide (a.kind = 11) = false := decide_eq_false (by have := of_decide_eq_false h28; omega)
   have q3 : dn = false := h67
   have q4 : decide (a.kind = 10) = false := decide_eq_false (by have := of_decide_eq_false h72; omega)
   have q6 : decide ((nextM h.core ps a).code = 0) = true := decide_eq_true (by have := of_decide_eq_true h97; omega)
   have q7 : noted a = true := frame_code.1 (of_decide_eq_true h105)
   have q8 : decide (4000 < tx.length + (frameOf a).length) = false := decide_eq_false (by have := of_decide_eq_false h117; rw [fText_yes q7] at this; omega)
   have q9 : decide (0 ≤ fl) = true := decide_eq_true (by have := of_decide_eq_true h124; omega)
   refine n_doneWC (B' := [(b, .cells (bankC h (tx ++ (frameOf a).take fl.toNat) true (-1) ((na + 1 : Nat))) 46 (0, 0))]) (m := 3) rfl (by decide) rfl (by kernel_rfl) (.there (.there .here)) rep_size (hmr) (fun w1 hw => by rw [take_min q7 (of_decide_eq_true h124)] at hw; exact hw.sub (List.Sublist.cons _ (List.Sublist.cons _ (List.Sublist.cons _ (List.Sublist.cons _ (List.Sublist.cons_cons _ (List.Sublist.refl _))))))) ?_
   simp only [doM, q1, q2, q3, q4, q6, q7, q8, q9, cond_true, cond_false, Bool.not_true, Bool.not_false, Bool.or_true, Bool.true_or, Bool.or_false, Bool.false_or]
   exact ⟨none, 0, rfl, .inl rfl, h, rfl, rfl, hp.mono hmr, hlc⟩
 refine c_skip (n_then (d_gen (ρ := BG) (Fo := fun r => r.F) (Lo := (bgLo [(b9, .cells ((repC (nextM h.core ps a).code (nextM h.core ps a).n (.slice ax (nextM h.core ps a).done.length cx))) 31), (b8, .cells hx.cells 43), (b4, .cells ((repC 0 0 (.slice none 0 0))) 31), (b3, .cells a.cells 34)] K b 46 h (tx) (tx ++ fText a) dn dn (fl) ((na + 1 : Nat)) 14 11 99)) (G := (fun (b1 : Nat → Bool) (r : BG) => More r18.F r.F ∧ (b1 11 = true → b1 5 = true) ∧ (r.q = (some hx)) ∧ (∀ x, r.q = some x → (fun _ _ => True) r.F x) ∧ (b1 14 = true → True))) (le := BG.Le) (Ψ := (fun (d : Nat) (v : Value) (r : BG) => if d = 149 then (v = .pointer (some ⟨b, 0, none⟩)) else if d = 150 then (v = .pointer (some ⟨b, 0, none⟩)) else if d = 151 then (v = .pointer (some ⟨b, 0, none⟩)) else if d = 152 then (v = .pointer (some ⟨b, 0, none⟩)) else if d = 153 then (v = .pointer (some ⟨b, 0 + 42, none⟩)) else if d = 154 then (v = S tx) else if d = 155 then (v = S (fText a)) else if d = 156 then (v = S (tx ++ fText a)) else if d = 157 then (v = .agg hx.cells) else if d = 158 then (v = .pointer (some ⟨b, 0, none⟩)) else if d = 159 then (v = .pointer (some ⟨b, 0 + 42, none⟩)) else if d = 160 then (v = .pointer (some ⟨b, 0, none⟩)) else if d = 161 then (v = .pointer (some ⟨b, 0 + 0, none⟩)) else True)) (by kernel_rfl) (by kernel_rfl) (by kernel_rfl) ⟨r18.F, (some hx)⟩ rfl rfl ⟨fun _ _ h => h, (fun h => (by cases h)), rfl, fun _ _ => trivial, (fun h => (by cases h))⟩ ?_ ?_ ?_))
 · intro d v r r1 hle hps
   try dsimp only at hps ⊢
   by_cases c0 : d = 149
   · rw [if_pos c0] at hps ⊢; exact hps
   rw [if_neg c0] at hps ⊢
   by_cases c1 : d = 150
   · rw [if_pos c1] at hps ⊢; exact hps
   rw [if_neg c1] at hps ⊢
   by_cases c2 : d = 151
   · rw [if_pos c2] at hps ⊢; exact hps
   rw [if_neg c2] at hps ⊢
   by_cases c3 : d = 152
   · rw [if_pos c3] at hps ⊢; exact hps
   rw [if_neg c3] at hps ⊢
   by_cases c4 : d = 153
   · rw [if_pos c4] at hps ⊢; exact hps
   rw [if_neg c4] at hps ⊢
   by_cases c5 : d = 154
   · rw [if_pos c5] at hps ⊢; exact hps
   rw [if_neg c5] at hps ⊢
   by_cases c6 : d = 155
   · rw [if_pos c6] at hps ⊢; exact hps
   rw [if_neg c6] at hps ⊢
   by_cases c7 : d = 156
   · rw [if_pos c7] at hps ⊢; exact hps
   rw [if_neg c7] at hps ⊢
   by_cases c8 : d = 157
   · rw [if_pos c8] at hps ⊢; exact hps
   rw [if_neg c8] at hps ⊢
   by_cases c9 : d = 158
   · rw [if_pos c9] at hps ⊢; exact hps
   rw [if_neg c9] at hps ⊢
   by_cases c10 : d = 159
   · rw [if_pos c10] at hps ⊢; exact hps
   rw [if_neg c10] at hps ⊢
   by_cases c11 : d = 160
   · rw [if_pos c11] at hps ⊢; exact hps
   rw [if_neg c11] at hps ⊢
   by_cases c12 : d = 161
   · rw [if_pos c12] at hps ⊢; exact hps
   rw [if_neg c12] at hps ⊢
   trivial
 · intro i o ho
   match i, ho with
   | 0, ho =>
     obtain rfl := Option.some.inj ho
     intro b1 r g hbi hed hG hl
     have e0 : g 0 = .pointer (some ⟨b, 0, none⟩) := (hl 0 (dK (by kernel_rfl))).2 (dK (by kernel_rfl))
     refine s_val (v_move (v := .pointer (some ⟨b, 0, none⟩)) e0) ?_
     exact s_fin (fun w1 hw => ⟨_, r, rfl, .refl r, ⟨hG.1, hG.2.1, hG.2.2.1, hG.2.2.2.1, hG.2.2.2.2⟩, hw, fun d hd => (by cases hd; exact rfl)⟩)
   | 1, ho =>
     obtain rfl := Option.some.inj ho
     intro b1 r g hbi hed hG hl
     have e0 : g 0 = .pointer (some ⟨b, 0, none⟩) := (hl 0 (dK (by kernel_rfl))).2 (dK (by kernel_rfl))
     refine s_val (v_move (v := .pointer (some ⟨b, 0, none⟩)) e0) ?_
     exact s_fin (fun w1 hw => ⟨_, r, rfl, .refl r, ⟨hG.1, hG.2.1, hG.2.2.1, hG.2.2.2.1, hG.2.2.2.2⟩, hw, fun d hd => (by cases hd; exact rfl)⟩)
   | 2, ho =>
     obtain rfl := Option.some.inj ho
     intro b1 r g hbi hed hG hl
     have e0 : g 0 = .pointer (some ⟨b, 0, none⟩) := (hl 0 (dK (by kernel_rfl))).2 (dK (by kernel_rfl))
     refine s_val (v_move (v := .pointer (some ⟨b, 0, none⟩)) e0) ?_
     exact s_fin (fun w1 hw => ⟨_, r, rfl, .refl r, ⟨hG.1, hG.2.1, hG.2.2.1, hG.2.2.2.1, hG.2.2.2.2⟩, hw, fun d hd => (by cases hd; exact rfl)⟩)
   | 3, ho =>
     obtain rfl := Option.some.inj ho
     intro b1 r g hbi hed hG hl
     have e151 : g 151 = .pointer (some ⟨b, 0, none⟩) := (hl 151 (dK (by kernel_rfl))).1 (dK (by kernel_rfl))
     refine s_val (v_nilCheck e151) ?_
     exact s_fin (fun w1 hw => ⟨_, r, rfl, .refl r, ⟨hG.1, hG.2.1, hG.2.2.1, hG.2.2.2.1, hG.2.2.2.2⟩, hw, fun d hd => (by cases hd; exact rfl)⟩)
   | 4, ho =>
     obtain rfl := Option.some.inj ho
     intro b1 r g hbi hed hG hl
     have e152 : g 152 = .pointer (some ⟨b, 0, none⟩) := (hl 152 (dK (by kernel_rfl))).1 (dK (by kernel_rfl))
     refine s_val (v_fd 42 (by kernel_rfl) e152) ?_
     exact s_fin (fun w1 hw => ⟨_, r, rfl, .refl r, ⟨hG.1, hG.2.1, hG.2.2.1, hG.2.2.2.1, hG.2.2.2.2⟩, hw, fun d hd => (by cases hd; exact rfl)⟩)
   | 5, ho =>
     obtain rfl := Option.some.inj ho
     intro b1 r g hbi hed hG hl
     have e153 : g 153 = .pointer (some ⟨b, 0 + 42, none⟩) := (hl 153 (dK (by kernel_rfl))).1 (dK (by kernel_rfl))
     have hf : b1 11 = false := by cases e : b1 11 with | false => rfl | true => (have := hG.2.1 e; rw [hbi] at this; cases this)
     refine s_val (v_load1 (v := S tx) (by kernel_rfl) e153 (.there (.there (.there (.there .here)))) (by rw [bankC_text, hf]; rfl)) ?_
     exact s_fin (fun w1 hw => ⟨_, r, rfl, .refl r, ⟨hG.1, fun _ => rfl, hG.2.2.1, hG.2.2.2.1, hG.2.2.2.2⟩, hw, fun d hd => (by cases hd; exact rfl)⟩)
   | 6, ho =>
     obtain rfl := Option.some.inj ho
     intro b1 r g hbi hed hG hl
     have e10 : g 10 = S _ := (hl 10 (dK (by kernel_rfl))).2 (dK (by kernel_rfl))
     refine s_val (v_move (v := S (fText a)) e10) ?_
     exact s_fin (fun w1 hw => ⟨_, r, rfl, .refl r, ⟨hG.1, hG.2.1, hG.2.2.1, hG.2.2.2.1, hG.2.2.2.2⟩, hw, fun d hd => (by cases hd; exact rfl)⟩)
   | 7, ho =>
     obtain rfl := Option.some.inj ho
     intro b1 r g hbi hed hG hl
     have e154 : g 154 = S tx := (hl 154 (dK (by kernel_rfl))).1 (dK (by kernel_rfl))
     have e155 : g 155 = S (fText a) := (hl 155 (dK (by kernel_rfl))).1 (dK (by kernel_rfl))
     refine s_val (v_strAdd e154 e155 (by omega)) ?_
     exact s_fin (fun w1 hw => ⟨_, r, rfl, .refl r, ⟨hG.1, hG.2.1, hG.2.2.1, hG.2.2.2.1, hG.2.2.2.2⟩, hw, fun d hd => (by cases hd; exact rfl)⟩)
   | 8, ho =>
     obtain rfl := Option.some.inj ho
     intro b1 r g hbi hed hG hl
     have e8 : g 8 = .pointer (some ⟨b8, 0, none⟩) := (hl 8 (dK (by kernel_rfl))).2 (dK (by kernel_rfl))
     refine s_val (v_loadA (m := 42) (by kernel_rfl) e8 (.there .here) (H.size _)) ?_
     exact s_fin (fun w1 hw => ⟨_, r, rfl, .refl r, ⟨hG.1, hG.2.1, hG.2.2.1, hG.2.2.2.1, hG.2.2.2.2⟩, hw, fun d hd => (by cases hd; exact rfl)⟩)
   | 9, ho =>
     obtain rfl := Option.some.inj ho
     intro b1 r g hbi hed hG hl
     have e149 : g 149 = .pointer (some ⟨b, 0, none⟩) := (hl 149 (dK (by kernel_rfl))).1 (dK (by kernel_rfl))
     refine s_val (v_nilCheck e149) ?_
     exact s_fin (fun w1 hw => ⟨_, r, rfl, .refl r, ⟨hG.1, hG.2.1, hG.2.2.1, hG.2.2.2.1, hG.2.2.2.2⟩, hw, fun d hd => (by cases hd; exact rfl)⟩)
   | 10, ho =>
     obtain rfl := Option.some.inj ho
     intro b1 r g hbi hed hG hl
     have e158 : g 158 = .pointer (some ⟨b, 0, none⟩) := (hl 158 (dK (by kernel_rfl))).1 (dK (by kernel_rfl))
     refine s_val (v_fd 42 (by kernel_rfl) e158) ?_
     exact s_fin (fun w1 hw => ⟨_, r, rfl, .refl r, ⟨hG.1, hG.2.1, hG.2.2.1, hG.2.2.2.1, hG.2.2.2.2⟩, hw, fun d hd => (by cases hd; exact rfl)⟩)
   | 11, ho =>
     obtain rfl := Option.some.inj ho
     intro b1 r g hbi hed hG hl
     have e159 : g 159 = .pointer (some ⟨b, 0 + 42, none⟩) := (hl 159 (dK (by kernel_rfl))).1 (dK (by kernel_rfl))
     have e156 : g 156 = S (tx ++ fText a) := (hl 156 (dK (by kernel_rfl))).1 (dK (by kernel_rfl))
     have hlt : b1 5 = true := hed ⟨5, .phase⟩ (by simp) rfl
     refine s_store1 (v := S (tx ++ fText a)) (by kernel_rfl) e159 e156 (.there (.there (.there (.there .here)))) (bankC_setText _ _ _ _ _) rfl ?_
     exact s_fin (fun w1 hw => ⟨undef, r, rfl, .refl r, ⟨hG.1, fun _ => hlt, hG.2.2.1, hG.2.2.2.1, hG.2.2.2.2⟩, hw, fun d hd => (by cases hd)⟩)
   | 12, ho =>
     obtain rfl := Option.some.inj ho
     intro b1 r g hbi hed hG hl
     have e150 : g 150 = .pointer (some ⟨b, 0, none⟩) := (hl 150 (dK (by kernel_rfl))).1 (dK (by kernel_rfl))
     refine s_val (v_nilCheck e150) ?_
     exact s_fin (fun w1 hw => ⟨_, r, rfl, .refl r, ⟨hG.1, hG.2.1, hG.2.2.1, hG.2.2.2.1, hG.2.2.2.2⟩, hw, fun d hd => (by cases hd; exact rfl)⟩)
   | 13, ho =>
     obtain rfl := Option.some.inj ho
     intro b1 r g hbi hed hG hl
     have e160 : g 160 = .pointer (some ⟨b, 0, none⟩) := (hl 160 (dK (by kernel_rfl))).1 (dK (by kernel_rfl))
     refine s_val (v_fd 0 (by kernel_rfl) e160) ?_
     exact s_fin (fun w1 hw => ⟨_, r, rfl, .refl r, ⟨hG.1, hG.2.1, hG.2.2.1, hG.2.2.2.1, hG.2.2.2.2⟩, hw, fun d hd => (by cases hd; exact rfl)⟩)
   | 14, ho =>
     obtain rfl := Option.some.inj ho
     intro b1 r g hbi hed hG hl
     have e161 : g 161 = .pointer (some ⟨b, 0 + 0, none⟩) := (hl 161 (dK (by kernel_rfl))).1 (dK (by kernel_rfl))
     have e157 : g 157 = .agg hx.cells := (hl 157 (dK (by kernel_rfl))).1 (dK (by kernel_rfl))
     refine s_storeP (m := 42) (by kernel_rfl) e161 e157 (.there (.there (.there (.there .here)))) (by rw [bankC_size]; omega) (H.size _) (bankC_over _ _ _ _ _ _) (H.all1 _) (s_fin (fun w1 hw => ⟨undef, r, rfl, .refl r, ⟨hG.1, hG.2.1, hG.2.2.1, hG.2.2.2.1, fun _ => trivial⟩, ?_, fun d hd => (by cases hd)⟩))
     rw [← bgLo_house (x := hx) rfl hG.2.2.1 (by decide) (by decide)]; exact hw
   | n + 15, ho => cases ho
 intro b30 r30 g hall hG hd he
 obtain ⟨hm1, _, hqf, _, _⟩ := hG
 have hmr2 : More F r30.F := fun a v h => hm1 a v (hmr a v h)
 rw [bgLo_all hqf (hall 14 (by decide)) (hall 11 (by decide)) (.inr rfl)]
 have e0 : g 0 = .pointer (some ⟨b, 0, none⟩) := he 0 (dK (by kernel_rfl))
 have e4 : g 4 = .pointer (some ⟨b4, 0, none⟩) := he 4 (dK (by kernel_rfl))
 have e9 : g 9 = .pointer (some ⟨b9, 0, none⟩) := he 9 (dK (by kernel_rfl))
 obtain ⟨g1, hg1⟩ : ∃ g1, g = (upd (upd (upd g1 0 (.pointer (some ⟨b, 0, none⟩))) 4 (.pointer (some ⟨b4, 0, none⟩))) 9 (.pointer (some ⟨b9, 0, none⟩))) := ⟨g, live3 e0 e4 e9⟩
 rw [hg1]
 refine r_seq (by kernel_rfl) (s_val (v_loadA (m := 3) (by kernel_rfl) rfl .here rfl) (s_storeA (m := 3) (by kernel_rfl) rfl rfl (.there (.there .here)) rfl rfl rep_all (s_nil (c_ret ?_))))
 have q1 : decide (na = 200) = false := decide_eq_false (by have := of_decide_eq_false h16; omega)
 have q2 : decide (a.kind = 11) = false := decide_eq_false (by have := of_decide_eq_false h28; omega)
 have q3 : dn = false := h67
 have q4 : decide (a.kind = 10) = false := decide_eq_false (by have := of_decide_eq_false h72; omega)
 have q6 : decide ((nextM h.core ps a).code = 0) = true := decide_eq_true (by have := of_decide_eq_true h97; omega)
 have q7 : noted a = true := frame_code.1 (of_decide_eq_true h105)
 have q8 : decide (4000 < tx.length + (frameOf a).length) = false := decide_eq_false (by have := of_decide_eq_false h117; rw [fText_yes q7] at this; omega)
 have q9 : decide (0 ≤ fl) = false := decide_eq_false (by have := of_decide_eq_false h124; omega)
 refine n_doneWC (B' := [(b, .cells (bankC hx (tx ++ frameOf a) dn (fl) ((na + 1 : Nat))) 46 (0, 0))]) (m := 3) rfl (by decide) rfl (by kernel_rfl) (.there (.there .here)) rep_size (hmr2) (fun w1 hw => by rw [fText_yes q7] at hw; exact hw.sub (List.Sublist.cons _ (List.Sublist.cons _ (List.Sublist.cons _ (List.Sublist.cons _ (List.Sublist.cons_cons _ (List.Sublist.refl _))))))) ?_
 simp only [doM, q1, q2, q3, q4, q6, q7, q8, q9, cond_true, cond_false, Bool.not_true, Bool.not_false, Bool.or_true, Bool.true_or, Bool.or_false, Bool.false_or]
 exact ⟨ax, cx, rfl, hix.mono hm1, hx, rfl, hcx, (outPays hp hmr (fun _ _ h => h) hox).mono hm1, hlx⟩
end Go.Proofs.YtmkboljfbmlebacGreat
namespace Go.Proofs.YtmkboljfbmlebacGreat
open Go.RowKit
set_option linter.unusedSimpArgs false
set_option linter.unusedVariables false
theorem ite_stab {c : Prop} [Decidable c] {p p' q q' : Prop} (h1 : c → p → p') (h2 : ¬ c → q → q') : (if c then p else q) → (if c then p' else q') := by
 intro h
 by_cases hc : c
 · rw [if_pos hc] at h ⊢; exact h1 hc h
 · rw [if_neg hc] at h ⊢; exact h2 hc h
theorem ref_new (tb b : Nat) (F : Addr → Value → Prop) : RefRep tb F b [(b, .cells (bankC newM [] false (-1) 0) tb (0, 0))] newB := ⟨newM, rfl, rfl, ⟨rfl, .inl rfl⟩, Nat.le_refl _⟩
structure PD where
 F : Addr → Value → Prop
 B : List (Nat × Obj)
 R : List (Nat × Obj)
 q1 : Option (Option Addr × Nat)
 q2 : Option (Option Addr × Nat)
 q3 : Option H
structure PD.Le (r r' : PD) : Prop where
 F : More r.F r'.F
 q1 : ∀ x, r.q1 = some x → r'.q1 = some x
 q2 : ∀ x, r.q2 = some x → r'.q2 = some x
 q3 : ∀ x, r.q3 = some x → r'.q3 = some x
theorem PD.Le.refl (r : PD) : PD.Le r r := ⟨fun _ _ h => h, fun _ h => h, fun _ h => h, fun _ h => h⟩
def afterB (q : Option (Option Addr × Nat)) (s s' : BankS) : BankS := bif q.isSome then s' else s
structure pdG (RB : (Addr → Value → Prop) → List (Nat × Obj) → BankS → Prop) (tb : Nat) (F0 : Addr → Value → Prop) (br : Nat) (s s' : BankS) (done : List Int) (j1 j2 j3 : Nat) (b : Nat → Bool) (r : PD) : Prop where
 more : More F0 r.F
 n1 : b j1 = false → r.q1 = none
 n2 : b j2 = false → r.q2 = none
 n3 : b j3 = false → r.q3 = none
 rb : RB r.F r.B (afterB r.q1 s s')
 rr : RefRep tb r.F br r.R (afterB r.q2 s s')
 i1 : ∀ a c, r.q1 = some (a, c) → IntsAt r.F a done
 i2 : ∀ a c, r.q2 = some (a, c) → IntsAt r.F a done
 i3 : ∀ h, r.q3 = some h → h.core = s'.c ∧ PaysIn r.F h.pa h.pl s'.ps
def isR (q : Option (Option Addr × Nat)) (c n : Int) (len : Nat) (v : Value) : Prop := ∃ a k, q = some (a, k) ∧ v = .agg (repC c n (.slice a len k))
def isH (F : Addr → Value → Prop) (c : H) (ps : List PayS) (v : Value) : Prop := ∃ h : H, h.core = c ∧ PaysIn F h.pa h.pl ps ∧ v = .agg h.cells
def both (r : PD) : Prop := (∃ x, r.q1 = some x) ∧ ∃ x, r.q2 = some x
theorem isR.le {q q' : Option (Option Addr × Nat)} {c n : Int} {len : Nat} {v : Value} (h : isR q c n len v) (hq : ∀ x, q = some x → q' = some x) : isR q' c n len v := by
 obtain ⟨a, k, e1, e2⟩ := h
 exact ⟨a, k, hq _ e1, e2⟩
theorem isH.le {F F' : Addr → Value → Prop} {c : H} {ps : List PayS} {v : Value} (h : isH F c ps v) (hm : More F F') : isH F' c ps v := by
 obtain ⟨k, e1, e2, e3⟩ := h
 exact ⟨k, e1, e2.mono hm, e3⟩
theorem both.le {r r' : PD} (h : both r) (hl : PD.Le r r') : both r' := by
 obtain ⟨⟨x, h1⟩, y, h2⟩ := h
 exact ⟨⟨x, hl.q1 _ h1⟩, y, hl.q2 _ h2⟩
structure PlB where
 i : Nat
 F : Addr → Value → Prop
 s : BankS
 B : List (Nat × Obj)
 R : List (Nat × Obj)
def RunF2 (l : List ActS) (F : Addr → Value → Prop) (v : Value) : Prop := ∃ (a : Option Addr) (n c : Nat) (e : Int), v = .tuple #[.slice a n c, I e] ∧ (l.length ≤ 200 → n = l.length ∧ e = 0 ∧ RepsAt F a (repsM newB l)) ∧ (200 < l.length → n = 0 ∧ e = 5)
theorem runF2_mono (l : List ActS) : Mono (RunF2 l) := by
 rintro F F' v hm ⟨a, n, c, e, h1, h2, h3⟩
 exact ⟨a, n, c, e, h1, fun h => ⟨(h2 h).1, (h2 h).2.1, (h2 h).2.2.mono hm⟩, h3⟩
theorem reps_at : ∀ (xs : List ActS) (s : BankS) (i : Nat) (x : ActS), xs[i]? = some x → (repsM s xs)[i]? = some (doM (playM s (xs.take i)) x).2
 | [], _, _, _, h => by simp at h
 | y :: r, s, 0, x, h => by simp at h; subst h; simp [repsM, playM]
 | y :: r, s, i + 1, x, h => by
   simp only [List.getElem?_cons_succ] at h
   simp only [repsM, List.getElem?_cons_succ, List.take_succ_cons]
   rw [reps_at r (doM s y).1 i x h]
   rfl
theorem one_act {w0 w : World} {F : Addr → Value → Prop} {L : List (Nat × Obj)} {b t : Nat} {fr : Nat × Nat} {x : ActS} (hw : Has w0 F L w) (hl : Look L b (.cells x.cells t fr)) : ActsAt (At w) (some ⟨b, 0, none⟩) [x] := by
 refine .inr ⟨b, 0, rfl, fun j y hj k v hv => ?_⟩
 cases j with
 | zero =>
   simp at hj; subst hj
   show w.cell? _ = _
   rw [cell_has hw hl]
   simpa using hv
 | succ j => simp at hj
def aBad : ActS := ⟨99, 0, 0, 0, 0⟩
theorem not_same (d : Bool) : ((!d) == d) = false := by cases d <;> rfl
end Go.Proofs.YtmkboljfbmlebacGreat
namespace Go.Proofs.YtmkboljfbmlebacGreat
open Go.RowKit
set_option linter.unusedSimpArgs false
set_option linter.unusedVariables false
set_option maxRecDepth 100000
attribute [local irreducible] cC sC nC rC qw
theorem ref_do (F : Addr → Value → Prop) (b : Nat) (B : List (Nat × Obj)) (s : BankS) (a : ActS) (hg : BGood s) (hr : RefRep 46 F b B s) : GivesW Tryz.prog 9 [.pointer (some ⟨b, 0, none⟩), .agg a.cells] F B (fun F2 v B' => ∃ a1 c1, v = .agg (repC (doM s a).2.code (doM s a).2.n (.slice a1 (doM s a).2.done.length c1)) ∧ IntsAt F2 a1 (doM s a).2.done ∧ RefRep 46 F2 b B' (doM s a).1) := by
 obtain ⟨h, rfl, hc, hp, hl⟩ := hr
 obtain ⟨c, ps, tx, dn, fl, na⟩ := s
 dsimp only at hc hp
 subst hc
 exact gr_Do F h b ps tx dn fl na a hg hp hl
set_option maxHeartbeats 4000000 in
theorem law_BankPlays (bk : BankOk) (a0 : Option Addr) (c0 : Nat) (xs : List ActS) (w : World) (hx : ActsAt (At w) a0 xs) (hlx : xs.length ≤ 9223372036854775807) : Gives Tryz.prog 3 [.slice a0 xs.length c0] w (.bool true) := by
 refine gives_of Tryz.func3 rfl Tryz.ntmps3 (by simp) (r_seq (by kernel_rfl) (s_val (v_asB rfl) (s_nil (r_seq (by kernel_rfl) (s_callE (by kernel_rfl) (fun w hw => bk.new w) (fun v8 E8 hR8 => ?_))))))
 obtain ⟨b8, rfl, hr8⟩ := hR8
 refine s_callE (by kernel_rfl) (fun w hw => gr_NewBank w) (fun v9 E9 hR9 => ?_)
 obtain ⟨b9, rfl, rfl⟩ := hR9
 refine s_val (v_assign (v := .pointer _) rfl) (s_val (v_assign (v := .pointer _) rfl) (s_nil (c_seq (r_seq (by kernel_rfl) (s_val (v_move (v := .pointer _) rfl) (s_val (v_ptrNil (by kernel_rfl) rfl rfl) (s_nil (c_condFh rfl rfl rfl (c_skip (n_then (c_seq (r_seq (by kernel_rfl) (s_val (v_asI rfl) (s_nil (c_block (c_loop (σ := PlB) (fun (t : PlB) f => ∃ g, (t.i ≤ xs.length ∧ t.i ≤ 80 ∧ More (At w) t.F ∧ BGood t.s ∧ bk.Rep t.F b8 t.B t.s ∧ RefRep 46 t.F b9 t.R t.s) ∧ f = (upd (upd (upd (upd g 0 (.slice a0 xs.length c0)) 3 (.pointer (some ⟨b8, 0, none⟩))) 4 (.pointer (some ⟨b9, 0, none⟩))) 5 (I t.i))) (fun (t : PlB) => Has w t.F (t.B ++ (t.R ++ []))) (fun (t : PlB) => xs.length - t.i) ⟨0, At w, newB, E8, [(b9, .cells (bankC newM [] false (-1) 0) 46 (0, 0))]⟩ ⟨_, ⟨Nat.zero_le _, Nat.zero_le _, fun _ _ h => h, bgood_new, hr8 _, ref_new 46 b9 _⟩, live4 rfl rfl rfl rfl⟩ (fun w1 hw => hw.perm (perm_front (A := [_]))) ?_))))))))))))))))
 rintro t _ ⟨g, ⟨hil, hi80, hmo, hgt, hrt, hrrt⟩, rfl⟩
 refine c_seq (r_seq (by kernel_rfl) (s_val (v_mvI rfl) (s_val (v_move (v := .slice _ _ _) rfl) (s_val (v_lenS (T := 22) (m := 5) (by kernel_rfl) rfl rfl) (s_val (v_lsI rfl rfl) (s_val (v_mvB rfl) (s_splitR (s := 16) rfl (fun h16 => ?_) (fun h16 => ?_))))))))
 · refine s_pass rfl rfl h16 (s_pass rfl rfl h16 (s_val (v_pickF (v := .bool _) rfl h16 rfl) (s_nil (c_condFh rfl rfl rfl (c_exit (n_exit (n_exit (n_bhere (n_then (r_seq (by kernel_rfl) (s_val (v_asB rfl) (s_nil (c_ret (n_dnB rfl (by decide) rfl ?_))))))))))))))
   rfl
 refine s_want rfl rfl h16 (s_val (v_mvI rfl) (s_want rfl rfl h16 (s_val (v_lsI rfl rfl) (s_val (v_pickT (v := .bool _) rfl h16 rfl) (s_nil (c_condR rfl rfl (fun h19 => ?_) (fun h19 => ?_)))))))
 · refine c_exit (n_exit (n_exit (n_bhere (n_then (r_seq (by kernel_rfl) (s_val (v_asB rfl) (s_nil (c_ret (n_dnB rfl (by decide) rfl ?_)))))))))
   rfl
 have hi0 := of_decide_eq_true h16
 have hi8 := of_decide_eq_true h19
 obtain ⟨bx, ox, x, hax, hxk, hxc⟩ := (hx.mono hmo).get (j := t.i) (by omega)
 refine c_skip (n_then (c_seq (c_block (c_seq ?_))))
 have hdl : (doM t.s x).2.done.length ≤ 24 := reps_done (l := [x]) (j := 0) hgt rfl
 have hpl : (doM t.s x).1.ps.length ≤ 24 := (bgood_inv (hgt.act x)).1.len
 refine d_gen (ρ := PD) (Fo := fun r => r.F) (Lo := fun _ r => r.B ++ (r.R ++ [])) (G := pdG (fun F B s => bk.Rep F b8 B s) 46 t.F b9 t.s (doM t.s x).1 (doM t.s x).2.done 5 11 16) (le := PD.Le) (Ψ := (fun (d : Nat) (v : Value) (r : PD) => if d = 22 then (v = .pointer (some ⟨b8, 0, none⟩)) else if d = 23 then (v = .slice a0 xs.length c0) else if d = 24 then (v = I (t.i : Nat)) else if d = 25 then (v = .pointer (some ⟨bx, ox + (t.i : Int).toNat * 5, none⟩)) else if d = 26 then (v = .agg x.cells) else if d = 27 then (isR r.q1 (doM t.s x).2.code (doM t.s x).2.n (doM t.s x).2.done.length (v)) else if d = 28 then (v = .pointer (some ⟨b9, 0, none⟩)) else if d = 29 then (v = .slice a0 xs.length c0) else if d = 30 then (v = I (t.i : Nat)) else if d = 31 then (v = .pointer (some ⟨bx, ox + (t.i : Int).toNat * 5, none⟩)) else if d = 32 then (v = .agg x.cells) else if d = 33 then (isR r.q2 (doM t.s x).2.code (doM t.s x).2.n (doM t.s x).2.done.length (v)) else if d = 34 then (v = .bool true ∧ both r) else if d = 35 then (v = .bool false ∧ both r) else if d = 36 then (v = .bool false ∧ both r) else if d = 37 then (v = .pointer (some ⟨b8, 0, none⟩)) else if d = 38 then (∃ h, r.q3 = some h ∧ v = .agg h.cells) else if d = 39 then (v = .pointer (some ⟨b9, 0, none⟩)) else if d = 40 then (v = .pointer (some ⟨b9, 0, none⟩)) else if d = 41 then (v = .pointer (some ⟨b9, 0 + 0, none⟩)) else if d = 42 then (isH r.F (doM t.s x).1.c (doM t.s x).1.ps (v)) else if d = 43 then (v = .bool true) else if d = 44 then (v = .bool false) else if d = 45 then (v = .bool false) else True)) (by kernel_rfl) (by kernel_rfl) (by kernel_rfl) ⟨t.F, t.B, t.R, none, none, none⟩ rfl rfl ⟨fun _ _ h => h, fun _ => rfl, fun _ => rfl, fun _ => rfl, hrt, hrrt, (fun _ _ h => (by cases h)), (fun _ _ h => (by cases h)), (fun _ h => (by cases h))⟩ ?_ ?_ ?_
 · intro d v r r1 hle
   exact (ite_stab (fun _ h => h) (fun _ => (ite_stab (fun _ h => h) (fun _ => (ite_stab (fun _ h => h) (fun _ => (ite_stab (fun _ h => h) (fun _ => (ite_stab (fun _ h => h) (fun _ => (ite_stab (fun _ h => h.le hle.q1) (fun _ => (ite_stab (fun _ h => h) (fun _ => (ite_stab (fun _ h => h) (fun _ => (ite_stab (fun _ h => h) (fun _ => (ite_stab (fun _ h => h) (fun _ => (ite_stab (fun _ h => h) (fun _ => (ite_stab (fun _ h => h.le hle.q2) (fun _ => (ite_stab (fun _ h => ⟨h.1, h.2.le hle⟩) (fun _ => (ite_stab (fun _ h => ⟨h.1, h.2.le hle⟩) (fun _ => (ite_stab (fun _ h => ⟨h.1, h.2.le hle⟩) (fun _ => (ite_stab (fun _ h => h) (fun _ => (ite_stab (fun _ ⟨y, e1, e2⟩ => ⟨y, hle.q3 _ e1, e2⟩) (fun _ => (ite_stab (fun _ h => h) (fun _ => (ite_stab (fun _ h => h) (fun _ => (ite_stab (fun _ h => h) (fun _ => (ite_stab (fun _ h => h.le hle.F) (fun _ => (ite_stab (fun _ h => h) (fun _ => (ite_stab (fun _ h => h) (fun _ => (ite_stab (fun _ h => h) (fun _ h => h))))))))))))))))))))))))))))))))))))))))))))))))
 · intro i o ho
   match i, ho with
   | 0, ho =>
     obtain rfl := Option.some.inj ho
     intro b1 r g hbi hed hG hl
     have e3 : g 3 = .pointer (some ⟨b8, 0, none⟩) := (hl 3 (dK (by kernel_rfl))).2 (dK (by kernel_rfl))
     refine s_val (v_move (v := .pointer (some ⟨b8, 0, none⟩)) e3) ?_
     exact s_fin (fun w1 hw => ⟨_, r, rfl, .refl r, ⟨hG.more, hG.n1, hG.n2, hG.n3, hG.rb, hG.rr, hG.i1, hG.i2, hG.i3⟩, hw, fun d hd => (by cases hd; exact rfl)⟩)
   | 1, ho =>
     obtain rfl := Option.some.inj ho
     intro b1 r g hbi hed hG hl
     have e0 : g 0 = .slice a0 xs.length c0 := (hl 0 (dK (by kernel_rfl))).2 (dK (by kernel_rfl))
     refine s_val (v_move (v := .slice a0 xs.length c0) e0) ?_
     exact s_fin (fun w1 hw => ⟨_, r, rfl, .refl r, ⟨hG.more, hG.n1, hG.n2, hG.n3, hG.rb, hG.rr, hG.i1, hG.i2, hG.i3⟩, hw, fun d hd => (by cases hd; exact rfl)⟩)
   | 2, ho =>
     obtain rfl := Option.some.inj ho
     intro b1 r g hbi hed hG hl
     have e5 : g 5 = I (t.i : Nat) := (hl 5 (dK (by kernel_rfl))).2 (dK (by kernel_rfl))
     refine s_val (v_move (v := I (t.i : Nat)) e5) ?_
     exact s_fin (fun w1 hw => ⟨_, r, rfl, .refl r, ⟨hG.more, hG.n1, hG.n2, hG.n3, hG.rb, hG.rr, hG.i1, hG.i2, hG.i3⟩, hw, fun d hd => (by cases hd; exact rfl)⟩)
   | 3, ho =>
     obtain rfl := Option.some.inj ho
     intro b1 r g hbi hed hG hl
     have e23 : g 23 = .slice a0 xs.length c0 := (hl 23 (dK (by kernel_rfl))).1 (dK (by kernel_rfl))
     have e24 : g 24 = I (t.i : Nat) := (hl 24 (dK (by kernel_rfl))).1 (dK (by kernel_rfl))
     refine s_val (v_idxS (size := 5) (k := .i64) (by kernel_rfl) (e23.trans (congrArg (fun a => Value.slice a xs.length c0) hax)) e24 ⟨by omega, by omega⟩) ?_
     exact s_fin (fun w1 hw => ⟨_, r, rfl, .refl r, ⟨hG.more, hG.n1, hG.n2, hG.n3, hG.rb, hG.rr, hG.i1, hG.i2, hG.i3⟩, hw, fun d hd => (by cases hd; exact rfl)⟩)
   | 4, ho =>
     obtain rfl := Option.some.inj ho
     intro b1 r g hbi hed hG hl
     have e25 : g 25 = .pointer (some ⟨bx, ox + (t.i : Int).toNat * 5, none⟩) := (hl 25 (dK (by kernel_rfl))).1 (dK (by kernel_rfl))
     refine s_val (v_loadNo (cs := x.cells) (m := 5) (by kernel_rfl) e25 rfl (fun k v hv => hG.more _ _ (hxc k v hv))) ?_
     exact s_fin (fun w1 hw => ⟨_, r, rfl, .refl r, ⟨hG.more, hG.n1, hG.n2, hG.n3, hG.rb, hG.rr, hG.i1, hG.i2, hG.i3⟩, hw, fun d hd => (by cases hd; exact rfl)⟩)
   | 5, ho =>
     obtain rfl := Option.some.inj ho
     intro b1 r g hbi hed hG hl
     have e22 : g 22 = .pointer (some ⟨b8, 0, none⟩) := (hl 22 (dK (by kernel_rfl))).1 (dK (by kernel_rfl))
     have e26 : g 26 = .agg x.cells := (hl 26 (dK (by kernel_rfl))).1 (dK (by kernel_rfl))
     have h5 := hG.n1 hbi
     have hrb : bk.Rep r.F b8 r.B t.s := by have := hG.rb; rw [h5] at this; exact this
     refine s_do bk hgt hrb e22 e26 (fun F1 v1 E1 B1 hF1 hi1 hr1 => ?_)
     obtain ⟨a1, c1, rfl, hl1, ho1⟩ := hi1
     refine s_fin (fun w1 hw => ?_)
     obtain ⟨g1, g2, g3⟩ := hw.forget
     have hmo : More r.F (Out (B1 ++ (r.R ++ [])) w1) := fun a v h => g2 a v (hF1 a v h)
     exact ⟨_, ⟨Out (B1 ++ (r.R ++ [])) w1, B1, r.R, some (a1, c1), r.q2, r.q3⟩, rfl, ⟨hmo, (fun _ h => (by rw [h5] at h; cases h)), fun _ h => h, fun _ h => h⟩, ⟨fun a v h => hmo a v (hG.more a v h), (fun h => (by cases h)), hG.n2, hG.n3, bk.mono hr1 g2, hG.rr.mono hmo, (fun a c e => (by cases e; exact IntsO.known ⟨a1, c1, rfl, hl1, ho1⟩ g3)), fun a c e => (hG.i2 a c e).mono hmo, fun h e => ⟨(hG.i3 h e).1, (hG.i3 h e).2.mono hmo⟩⟩, g1, fun d hd => (by cases hd; exact ⟨a1, c1, rfl, rfl⟩)⟩
   | 6, ho =>
     obtain rfl := Option.some.inj ho
     intro b1 r g hbi hed hG hl
     have e4 : g 4 = .pointer (some ⟨b9, 0, none⟩) := (hl 4 (dK (by kernel_rfl))).2 (dK (by kernel_rfl))
     refine s_val (v_move (v := .pointer (some ⟨b9, 0, none⟩)) e4) ?_
     exact s_fin (fun w1 hw => ⟨_, r, rfl, .refl r, ⟨hG.more, hG.n1, hG.n2, hG.n3, hG.rb, hG.rr, hG.i1, hG.i2, hG.i3⟩, hw, fun d hd => (by cases hd; exact rfl)⟩)
   | 7, ho =>
     obtain rfl := Option.some.inj ho
     intro b1 r g hbi hed hG hl
     have e0 : g 0 = .slice a0 xs.length c0 := (hl 0 (dK (by kernel_rfl))).2 (dK (by kernel_rfl))
     refine s_val (v_move (v := .slice a0 xs.length c0) e0) ?_
     exact s_fin (fun w1 hw => ⟨_, r, rfl, .refl r, ⟨hG.more, hG.n1, hG.n2, hG.n3, hG.rb, hG.rr, hG.i1, hG.i2, hG.i3⟩, hw, fun d hd => (by cases hd; exact rfl)⟩)
   | 8, ho =>
     obtain rfl := Option.some.inj ho
     intro b1 r g hbi hed hG hl
     have e5 : g 5 = I (t.i : Nat) := (hl 5 (dK (by kernel_rfl))).2 (dK (by kernel_rfl))
     refine s_val (v_move (v := I (t.i : Nat)) e5) ?_
     exact s_fin (fun w1 hw => ⟨_, r, rfl, .refl r, ⟨hG.more, hG.n1, hG.n2, hG.n3, hG.rb, hG.rr, hG.i1, hG.i2, hG.i3⟩, hw, fun d hd => (by cases hd; exact rfl)⟩)
   | 9, ho =>
     obtain rfl := Option.some.inj ho
     intro b1 r g hbi hed hG hl
     have e29 : g 29 = .slice a0 xs.length c0 := (hl 29 (dK (by kernel_rfl))).1 (dK (by kernel_rfl))
     have e30 : g 30 = I (t.i : Nat) := (hl 30 (dK (by kernel_rfl))).1 (dK (by kernel_rfl))
     refine s_val (v_idxS (size := 5) (k := .i64) (by kernel_rfl) (e29.trans (congrArg (fun a => Value.slice a xs.length c0) hax)) e30 ⟨by omega, by omega⟩) ?_
     exact s_fin (fun w1 hw => ⟨_, r, rfl, .refl r, ⟨hG.more, hG.n1, hG.n2, hG.n3, hG.rb, hG.rr, hG.i1, hG.i2, hG.i3⟩, hw, fun d hd => (by cases hd; exact rfl)⟩)
   | 10, ho =>
     obtain rfl := Option.some.inj ho
     intro b1 r g hbi hed hG hl
     have e31 : g 31 = .pointer (some ⟨bx, ox + (t.i : Int).toNat * 5, none⟩) := (hl 31 (dK (by kernel_rfl))).1 (dK (by kernel_rfl))
     refine s_val (v_loadNo (cs := x.cells) (m := 5) (by kernel_rfl) e31 rfl (fun k v hv => hG.more _ _ (hxc k v hv))) ?_
     exact s_fin (fun w1 hw => ⟨_, r, rfl, .refl r, ⟨hG.more, hG.n1, hG.n2, hG.n3, hG.rb, hG.rr, hG.i1, hG.i2, hG.i3⟩, hw, fun d hd => (by cases hd; exact rfl)⟩)
   | 11, ho =>
     obtain rfl := Option.some.inj ho
     intro b1 r g hbi hed hG hl
     have e28 : g 28 = .pointer (some ⟨b9, 0, none⟩) := (hl 28 (dK (by kernel_rfl))).1 (dK (by kernel_rfl))
     have e32 : g 32 = .agg x.cells := (hl 32 (dK (by kernel_rfl))).1 (dK (by kernel_rfl))
     have h11 := hG.n2 hbi
     have hrr : RefRep 46 r.F b9 r.R t.s := by have := hG.rr; rw [h11] at this; exact this
     refine s_weak (fun w1 hw => hw.perm perm_front) (s_callW (R := _) (by kernel_rfl) (show GivesW _ _ [g 28, g 32] r.F r.R _ from (by rw [e28, e32]; exact ref_do r.F b9 r.R t.s x hgt hrr)) (fun F1 v1 B1 hF1 hR1 => ?_))
     obtain ⟨a1, c1, rfl, hi1, hr1⟩ := hR1
     exact s_fin (fun w1 hw => ⟨_, ⟨F1, r.B, B1, r.q1, some (a1, c1), r.q3⟩, rfl, ⟨hF1, fun _ h => h, (fun _ h => (by rw [h11] at h; cases h)), fun _ h => h⟩, ⟨fun a v h => hF1 a v (hG.more a v h), hG.n1, (fun h => (by cases h)), hG.n3, bk.mono hG.rb hF1, hr1, fun a c e => (hG.i1 a c e).mono hF1, (fun a c e => (by cases e; exact hi1)), fun h e => ⟨(hG.i3 h e).1, (hG.i3 h e).2.mono hF1⟩⟩, hw.perm perm_front, fun d hd => (by cases hd; exact ⟨a1, c1, rfl, rfl⟩)⟩)
   | 12, ho =>
     obtain rfl := Option.some.inj ho
     intro b1 r g hbi hed hG hl
     have e27 : isR r.q1 (doM t.s x).2.code (doM t.s x).2.n (doM t.s x).2.done.length (g 27) := (hl 27 (dK (by kernel_rfl))).1 (dK (by kernel_rfl))
     obtain ⟨a27, c27, q27, e27⟩ := e27
     have e33 : isR r.q2 (doM t.s x).2.code (doM t.s x).2.n (doM t.s x).2.done.length (g 33) := (hl 33 (dK (by kernel_rfl))).1 (dK (by kernel_rfl))
     obtain ⟨a33, c33, q33, e33⟩ := e33
     refine s_call (v := .bool true) (by kernel_rfl) (fun w1 hw => ?_) ?_
     · show Gives _ _ [g 27, g 33] w1 _
       rw [e27, e33]
       have e := gr_SameReply (doM t.s x).2.code (doM t.s x).2.n (doM t.s x).2.code (doM t.s x).2.n a27 a33 c27 c33 (doM t.s x).2.done (doM t.s x).2.done w1 ((hG.i1 _ _ q27).at hw) ((hG.i2 _ _ q33).at hw) (by omega)
       rw [sameRB_self] at e
       exact e
     exact s_fin (fun w1 hw => ⟨_, r, rfl, .refl r, ⟨hG.more, hG.n1, hG.n2, hG.n3, hG.rb, hG.rr, hG.i1, hG.i2, hG.i3⟩, hw, fun d hd => (by cases hd; exact ⟨rfl, ⟨_, q27⟩, _, q33⟩)⟩)
   | 13, ho =>
     obtain rfl := Option.some.inj ho
     intro b1 r g hbi hed hG hl
     have e34 : g 34 = .bool true ∧ both r := (hl 34 (dK (by kernel_rfl))).1 (dK (by kernel_rfl))
     obtain ⟨e34, bo34⟩ := e34
     refine s_val (v_not e34) ?_
     exact s_fin (fun w1 hw => ⟨_, r, rfl, .refl r, ⟨hG.more, hG.n1, hG.n2, hG.n3, hG.rb, hG.rr, hG.i1, hG.i2, hG.i3⟩, hw, fun d hd => (by cases hd; exact ⟨rfl, bo34⟩)⟩)
   | 14, ho =>
     obtain rfl := Option.some.inj ho
     intro b1 r g hbi hed hG hl
     have e35 : g 35 = .bool false ∧ both r := (hl 35 (dK (by kernel_rfl))).1 (dK (by kernel_rfl))
     obtain ⟨e35, bo35⟩ := e35
     refine s_val (v_move (v := .bool false) e35) ?_
     exact s_fin (fun w1 hw => ⟨_, r, rfl, .refl r, ⟨hG.more, hG.n1, hG.n2, hG.n3, hG.rb, hG.rr, hG.i1, hG.i2, hG.i3⟩, hw, fun d hd => (by cases hd; exact ⟨rfl, bo35⟩)⟩)
   | 15, ho =>
     obtain rfl := Option.some.inj ho
     intro b1 r g hbi hed hG hl
     have e36 : g 36 = .bool false ∧ both r := (hl 36 (dK (by kernel_rfl))).1 (dK (by kernel_rfl))
     obtain ⟨e36, bo36⟩ := e36
     have e3 : g 3 = .pointer (some ⟨b8, 0, none⟩) := (hl 3 (dK (by kernel_rfl))).2 (dK (by kernel_rfl))
     refine s_want (s := 36) rfl e36 rfl (s_val (v_move (v := .pointer (some ⟨b8, 0, none⟩)) e3) ?_)
     exact s_fin (fun w1 hw => ⟨_, r, rfl, .refl r, ⟨hG.more, hG.n1, hG.n2, hG.n3, hG.rb, hG.rr, hG.i1, hG.i2, hG.i3⟩, hw, fun d hd => (by cases hd; exact rfl)⟩)
   | 16, ho =>
     obtain rfl := Option.some.inj ho
     intro b1 r g hbi hed hG hl
     have e36 : g 36 = .bool false ∧ both r := (hl 36 (dK (by kernel_rfl))).1 (dK (by kernel_rfl))
     obtain ⟨e36, bo36⟩ := e36
     have e37 : g 37 = .pointer (some ⟨b8, 0, none⟩) := (hl 37 (dK (by kernel_rfl))).1 (dK (by kernel_rfl))
     refine s_want (s := 36) rfl e36 rfl ?_
     obtain ⟨⟨y1, bq1⟩, y2, bq2⟩ := bo36
     have h16 := hG.n3 hbi
     have hrb : bk.Rep r.F b8 r.B (doM t.s x).1 := by have := hG.rb; rw [bq1] at this; exact this
     refine s_callF (R := fun v E => ∃ h : H, v = .agg h.cells ∧ h.core = (doM t.s x).1.c ∧ PaysO h.pa h.pl h.pc (doM t.s x).1.ps E) (by kernel_rfl) (fun w1 hw => ?_) (fun F1 v1 E1 hF1 hK1 hR1 => ?_)
     · show GivesE _ _ [g 37] w1 _
       rw [e37]
       exact bk.house w1 b8 r.B _ (hgt.act x) (bk.mono hrb hw.at) (lies_of hw (fun _ hq => List.mem_append_left _ hq))
     obtain ⟨h1, rfl, hc1, ho1⟩ := hR1
     have hp1 := ho1.known hK1
     exact s_fin (fun w1 hw => ⟨_, ⟨F1, r.B, r.R, r.q1, r.q2, some h1⟩, rfl, ⟨hF1, fun _ h => h, fun _ h => h, (fun _ h => (by rw [h16] at h; cases h))⟩, ⟨fun a v h => hF1 a v (hG.more a v h), hG.n1, hG.n2, (fun h => (by cases h)), bk.mono hG.rb hF1, hG.rr.mono hF1, fun a c e => (hG.i1 a c e).mono hF1, fun a c e => (hG.i2 a c e).mono hF1, (fun h e => (by cases e; exact ⟨hc1, hp1⟩))⟩, hw, fun d hd => (by cases hd; exact ⟨h1, rfl, rfl⟩)⟩)
   | 17, ho =>
     obtain rfl := Option.some.inj ho
     intro b1 r g hbi hed hG hl
     have e36 : g 36 = .bool false ∧ both r := (hl 36 (dK (by kernel_rfl))).1 (dK (by kernel_rfl))
     obtain ⟨e36, bo36⟩ := e36
     have e4 : g 4 = .pointer (some ⟨b9, 0, none⟩) := (hl 4 (dK (by kernel_rfl))).2 (dK (by kernel_rfl))
     refine s_want (s := 36) rfl e36 rfl (s_val (v_move (v := .pointer (some ⟨b9, 0, none⟩)) e4) ?_)
     exact s_fin (fun w1 hw => ⟨_, r, rfl, .refl r, ⟨hG.more, hG.n1, hG.n2, hG.n3, hG.rb, hG.rr, hG.i1, hG.i2, hG.i3⟩, hw, fun d hd => (by cases hd; exact rfl)⟩)
   | 18, ho =>
     obtain rfl := Option.some.inj ho
     intro b1 r g hbi hed hG hl
     have e36 : g 36 = .bool false ∧ both r := (hl 36 (dK (by kernel_rfl))).1 (dK (by kernel_rfl))
     obtain ⟨e36, bo36⟩ := e36
     have e39 : g 39 = .pointer (some ⟨b9, 0, none⟩) := (hl 39 (dK (by kernel_rfl))).1 (dK (by kernel_rfl))
     refine s_want (s := 36) rfl e36 rfl (s_val (v_nilCheck e39) ?_)
     exact s_fin (fun w1 hw => ⟨_, r, rfl, .refl r, ⟨hG.more, hG.n1, hG.n2, hG.n3, hG.rb, hG.rr, hG.i1, hG.i2, hG.i3⟩, hw, fun d hd => (by cases hd; exact rfl)⟩)
   | 19, ho =>
     obtain rfl := Option.some.inj ho
     intro b1 r g hbi hed hG hl
     have e36 : g 36 = .bool false ∧ both r := (hl 36 (dK (by kernel_rfl))).1 (dK (by kernel_rfl))
     obtain ⟨e36, bo36⟩ := e36
     have e40 : g 40 = .pointer (some ⟨b9, 0, none⟩) := (hl 40 (dK (by kernel_rfl))).1 (dK (by kernel_rfl))
     refine s_want (s := 36) rfl e36 rfl (s_val (v_fd 0 (by kernel_rfl) e40) ?_)
     exact s_fin (fun w1 hw => ⟨_, r, rfl, .refl r, ⟨hG.more, hG.n1, hG.n2, hG.n3, hG.rb, hG.rr, hG.i1, hG.i2, hG.i3⟩, hw, fun d hd => (by cases hd; exact rfl)⟩)
   | 20, ho =>
     obtain rfl := Option.some.inj ho
     intro b1 r g hbi hed hG hl
     have e36 : g 36 = .bool false ∧ both r := (hl 36 (dK (by kernel_rfl))).1 (dK (by kernel_rfl))
     obtain ⟨e36, bo36⟩ := e36
     have e41 : g 41 = .pointer (some ⟨b9, 0 + 0, none⟩) := (hl 41 (dK (by kernel_rfl))).1 (dK (by kernel_rfl))
     refine s_want (s := 36) rfl e36 rfl ?_
     obtain ⟨⟨y1, bq1⟩, y2, bq2⟩ := bo36
     have hrr : RefRep 46 r.F b9 r.R (doM t.s x).1 := by have := hG.rr; rw [bq2] at this; exact this
     obtain ⟨h2, hR2, hc2, hp2, _⟩ := hrr
     refine s_weak (fun w1 hw => (show Has w r.F (r.B ++ ((b9, .cells (bankC h2 (doM t.s x).1.text (doM t.s x).1.down (doM t.s x).1.fail (doM t.s x).1.acts) 46 (0, 0)) :: [])) w1 from (by have hw2 : Has w r.F (r.B ++ (r.R ++ [])) w1 := hw; rw [hR2] at hw2; exact hw2))) (s_val (v_loadN (m := 42) (cs' := h2.cells) (by kernel_rfl) e41 (.app .here) (H.size _) (bankC_house _ _ _ _ _)) ?_)
     exact s_fin (fun w1 hw => ⟨_, r, rfl, .refl r, ⟨hG.more, hG.n1, hG.n2, hG.n3, hG.rb, hG.rr, hG.i1, hG.i2, hG.i3⟩, (by show Has w r.F (r.B ++ (r.R ++ [])) w1; rw [hR2]; exact hw), fun d hd => (by cases hd; exact ⟨h2, hc2, hp2, rfl⟩)⟩)
   | 21, ho =>
     obtain rfl := Option.some.inj ho
     intro b1 r g hbi hed hG hl
     have e36 : g 36 = .bool false ∧ both r := (hl 36 (dK (by kernel_rfl))).1 (dK (by kernel_rfl))
     obtain ⟨e36, bo36⟩ := e36
     have e38 : ∃ h, r.q3 = some h ∧ g 38 = .agg h.cells := (hl 38 (dK (by kernel_rfl))).1 (dK (by kernel_rfl))
     obtain ⟨h38, q38, e38⟩ := e38
     have e42 : isH r.F (doM t.s x).1.c (doM t.s x).1.ps (g 42) := (hl 42 (dK (by kernel_rfl))).1 (dK (by kernel_rfl))
     obtain ⟨h42, hc42, hp42, e42⟩ := e42
     refine s_want (s := 36) rfl e36 rfl ?_
     obtain ⟨hc1, hp1⟩ := hG.i3 _ q38
     refine s_call (v := .bool true) (by kernel_rfl) (fun w1 hw => ?_) ?_
     · show Gives _ _ [g 38, g 42] w1 _
       rw [e38, e42]
       have e := gr_SameHouse h38 (doM t.s x).1.ps h42 (doM t.s x).1.ps w1 (hp1.at hw) (hp42.at hw) (by have := hp1.1; omega)
       rw [same_core (hc1.trans hc42.symm) (hp1.1.symm.trans hp42.1)] at e
       exact e
     exact s_fin (fun w1 hw => ⟨_, r, rfl, .refl r, ⟨hG.more, hG.n1, hG.n2, hG.n3, hG.rb, hG.rr, hG.i1, hG.i2, hG.i3⟩, hw, fun d hd => (by cases hd; exact rfl)⟩)
   | 22, ho =>
     obtain rfl := Option.some.inj ho
     intro b1 r g hbi hed hG hl
     have e36 : g 36 = .bool false ∧ both r := (hl 36 (dK (by kernel_rfl))).1 (dK (by kernel_rfl))
     obtain ⟨e36, bo36⟩ := e36
     have e43 : g 43 = .bool true := (hl 43 (dK (by kernel_rfl))).1 (dK (by kernel_rfl))
     refine s_want (s := 36) rfl e36 rfl (s_val (v_not e43) ?_)
     exact s_fin (fun w1 hw => ⟨_, r, rfl, .refl r, ⟨hG.more, hG.n1, hG.n2, hG.n3, hG.rb, hG.rr, hG.i1, hG.i2, hG.i3⟩, hw, fun d hd => (by cases hd; exact rfl)⟩)
   | 23, ho =>
     obtain rfl := Option.some.inj ho
     intro b1 r g hbi hed hG hl
     have e36 : g 36 = .bool false ∧ both r := (hl 36 (dK (by kernel_rfl))).1 (dK (by kernel_rfl))
     obtain ⟨e36, bo36⟩ := e36
     have e44 : g 44 = .bool false := (hl 44 (dK (by kernel_rfl))).1 (dK (by kernel_rfl))
     refine s_val (v_pickF (v := .bool false) e36 rfl e44) ?_
     exact s_fin (fun w1 hw => ⟨_, r, rfl, .refl r, ⟨hG.more, hG.n1, hG.n2, hG.n3, hG.rb, hG.rr, hG.i1, hG.i2, hG.i3⟩, hw, fun d hd => (by cases hd; exact rfl)⟩)
   | n + 24, ho => cases ho
 intro b7 r7 g hall hG hd he
 have e45 : g 45 = .bool false := hd 45 (dK (by kernel_rfl))
 obtain ⟨_, ⟨y1, bq1⟩, y2, bq2⟩ : g 36 = .bool false ∧ both r7 := hd 36 (dK (by kernel_rfl))
 have hrb7 : bk.Rep r7.F b8 r7.B (doM t.s x).1 := by have := hG.rb; rw [bq1] at this; exact this
 have hrr7 : RefRep 46 r7.F b9 r7.R (doM t.s x).1 := by have := hG.rr; rw [bq2] at this; exact this
 obtain ⟨h4, hR4, hc4, hp4, hl4⟩ := hrr7
 have hm7 := hG.more
 refine c_weak (fun w1 hw => (show Has w r7.F (r7.B ++ ((b9, .cells (bankC h4 (doM t.s x).1.text (doM t.s x).1.down (doM t.s x).1.fail (doM t.s x).1.acts) 46 (0, 0)) :: [])) w1 from (by have hw2 : Has w r7.F (r7.B ++ (r7.R ++ [])) w1 := hw; rw [hR4] at hw2; exact hw2))) ?_
 have e0 : g 0 = .slice a0 xs.length c0 := he 0 (dK (by kernel_rfl))
 have e3 : g 3 = .pointer (some ⟨b8, 0, none⟩) := he 3 (dK (by kernel_rfl))
 have e4 : g 4 = .pointer (some ⟨b9, 0, none⟩) := he 4 (dK (by kernel_rfl))
 have e5 : g 5 = I (t.i : Nat) := he 5 (dK (by kernel_rfl))
 obtain ⟨g1, hg1⟩ : ∃ g1, g = (upd (upd (upd (upd (upd g1 0 (.slice a0 xs.length c0)) 3 (.pointer (some ⟨b8, 0, none⟩))) 4 (.pointer (some ⟨b9, 0, none⟩))) 5 (I (t.i : Nat))) 45 (.bool false)) := ⟨g, live5 e0 e3 e4 e5 e45⟩
 rw [hg1]
 refine c_condFh rfl rfl rfl (c_skip (n_then (r_seq (by kernel_rfl) (s_val (v_move (v := .pointer _) rfl) (s_call (by kernel_rfl) (fun w hw => bk.book w b8 r7.B _ (hgt.act x) (bk.mono hrb7 hw.at) (lies_of hw (fun _ hq => (List.mem_append_left _ hq)))) (s_val (v_move (v := .tuple _) rfl) (s_val (v_extract rfl rfl) (s_val (v_extract rfl rfl) (s_val (v_assign (v := S _) rfl) (s_val (v_asB rfl) (s_nil (r_seq (by kernel_rfl) (s_val (v_move (v := S _) rfl) (s_val (v_move (v := .pointer _) rfl) (s_val (v_nilCheck rfl) (s_val (v_fd 42 (by kernel_rfl) rfl) (s_val (v_load1 (v := .string _) (by kernel_rfl) rfl (.app .here) (bankC_text _ _ _ _ _)) (s_val (v_strNe rfl rfl (bgood_byt (hgt.act x)) (bgood_byt (hgt.act x))) (s_val (v_mvB rfl) ?_)))))))))))))))))))
 refine s_want rfl rfl (congrArg not (decide_eq_true rfl)) (s_val (v_mvB rfl) (s_want rfl rfl (congrArg not (decide_eq_true rfl)) (s_val (v_move (v := .pointer _) rfl) (s_want rfl rfl (congrArg not (decide_eq_true rfl)) (s_val (v_nilCheck rfl) (s_want rfl rfl (congrArg not (decide_eq_true rfl)) (s_val (v_fd 43 (by kernel_rfl) rfl) (s_want rfl rfl (congrArg not (decide_eq_true rfl)) (s_val (v_load1 (v := .bool _) (by kernel_rfl) rfl (.app .here) (bankC_down _ _ _ _ _)) (s_want rfl rfl (congrArg not (decide_eq_true rfl)) (s_val (v_eqlB (by kernel_rfl) rfl rfl) (s_val (v_pickF (v := .bool _) rfl (congrArg not (decide_eq_true rfl)) rfl) (s_nil (c_condFh rfl rfl (not_same _) (c_skip (n_bnormal (n_then (r_list (by kernel_rfl) (s_val (v_mvI rfl) ?_)))))))))))))))))))
 refine s_val (v_add rfl rfl (by omega)) (s_val (v_asI rfl) (s_end (n_round (s := t) ⟨t.i + 1, r7.F, (doM t.s x).1, r7.B, [(b9, .cells (bankC h4 (doM t.s x).1.text (doM t.s x).1.down (doM t.s x).1.fail (doM t.s x).1.acts) 46 (0, 0))]⟩ ⟨_, ⟨by dsimp only; omega, by dsimp only; omega, fun a v h => hm7 a v (hmo a v h), hgt.act x, hrb7, ⟨h4, rfl, hc4, hp4, hl4⟩⟩, live4 rfl rfl rfl rfl⟩ (fun _ hw => hw) (by dsimp only; omega))))
end Go.Proofs.YtmkboljfbmlebacGreat
namespace Go.Proofs.YtmkboljfbmlebacGreat
open Go.RowKit
set_option linter.unusedSimpArgs false
set_option linter.unusedVariables false
set_option maxRecDepth 100000
attribute [local irreducible] cC sC nC rC qw
theorem g_isNaN (x : Int) (w : World) : Gives Tryz.prog 114 [I x] w (.bool false) := by
 refine gives_of Tryz.func114 rfl Tryz.ntmps114 (by simp) (r_seq (by kernel_rfl) (s_val (v_asB rfl) (s_nil (r_seq (by kernel_rfl) (s_val (v_mvI rfl) (s_val (v_mvI rfl) (s_val (v_neq (k := .i64) rfl rfl) (s_val (v_asB rfl) (s_nil (c_ret (n_dnB rfl (by decide) rfl ?_)))))))))))
 simp
theorem g_Compare (x y : Int) (w : World) : Gives Tryz.prog 103 [I x, I y] w (I (cmpI x y)) := by
 refine gives_of Tryz.func103 rfl Tryz.ntmps103 (by simp) (r_seq (by kernel_rfl) (s_val (v_asI rfl) (s_nil (r_seq (by kernel_rfl) (s_val (v_mvI rfl) (s_call (by kernel_rfl) (fun w hw => g_isNaN _ w) (s_val (v_asB rfl) (s_nil (r_seq (by kernel_rfl) (s_val (v_mvI rfl) (s_call (by kernel_rfl) (fun w hw => g_isNaN _ w) (s_val (v_asB rfl) (s_nil (c_seq (r_seq (by kernel_rfl) (s_val (v_mvB rfl) (s_nil (c_condFh rfl rfl rfl (c_skip ?_)))))))))))))))))))
 refine n_then (c_seq (r_seq (by kernel_rfl) (s_val (v_mvB rfl) (s_nil (c_condFh rfl rfl rfl (c_skip (n_then (c_seq (r_seq (by kernel_rfl) (s_val (v_mvI rfl) (s_val (v_mvI rfl) (s_val (v_lsI rfl rfl) (s_nil (c_cond rfl rfl (fun h16 => ?_) (fun h16 => ?_)))))))))))))))
 · refine r_seq (by kernel_rfl) (s_val (v_asI rfl) (s_nil (c_ret (n_ret (n_done rfl (by decide) (Eq.trans (b := .int .i64 _) rfl (congrArg (Value.int .i64) ?_)))))))
   simp [cmpI, *]
 refine c_skip (n_then (c_seq (r_seq (by kernel_rfl) (s_val (v_mvI rfl) (s_val (v_mvI rfl) (s_val (v_gtr (k := .i64) rfl rfl) (s_nil (c_cond rfl rfl (fun h19 => ?_) (fun h19 => ?_)))))))))
 · refine r_seq (by kernel_rfl) (s_val (v_asI rfl) (s_nil (c_ret (n_ret (n_done rfl (by decide) (Eq.trans (b := .int .i64 _) rfl (congrArg (Value.int .i64) ?_)))))))
   simp [cmpI, *]
 refine c_skip (n_then (r_seq (by kernel_rfl) (s_val (v_asI rfl) (s_nil (c_ret (n_done rfl (by decide) (Eq.trans (b := .int .i64 _) rfl (congrArg (Value.int .i64) ?_))))))))
 simp [cmpI, *]
theorem g_Or (b o c : Nat) (x y : Int) (w : World) (hx : At w ⟨b, o, none⟩ (I x)) (hy : At w ⟨b, o + 1, none⟩ (I y)) : Gives Tryz.prog 102 [.slice (some ⟨b, o, none⟩) 2 c] w (I (bif decide (x = 0) then y else x)) := by
 refine gives_of Tryz.func102 rfl Tryz.ntmps102 (by simp) (r_seq (by kernel_rfl) (s_val (v_asI rfl) (s_nil (r_seq (by kernel_rfl) (s_val (v_asI rfl) (s_nil (c_seq (r_seq (by kernel_rfl) (s_val (v_move (v := .slice _ _ _) rfl) (s_val (v_lenS (T := 29) (m := 1) (by kernel_rfl) rfl rfl) (s_val (v_mvI rfl) (s_nil (c_block (c_rounds 3 (r_succ (r_seq (by kernel_rfl) (s_val (v_lsI rfl rfl) (s_nil (c_seq ?_)))))))))))))))))))
 refine c_condTh rfl rfl rfl (c_skip (n_then (c_seq (c_block (r_seq (by kernel_rfl) (s_val (v_idxS (size := 1) (k := .i64) (by kernel_rfl) rfl rfl (by decide)) (s_val (v_load1o (v := I x) (by kernel_rfl) rfl (by simpa using hx)) (s_val (v_asI rfl) (s_nil (r_seq (by kernel_rfl) (s_val (v_mvI rfl) (s_val (v_mvI rfl) (s_val (v_neq (k := .i64) rfl rfl) (s_nil (c_condN rfl rfl (fun h14 => ?_) (fun h14 => ?_))))))))))))))))
 · refine r_seq (by kernel_rfl) (s_val (v_mvI rfl) (s_val (v_asI rfl) (s_nil (c_ret (n_bret (n_ret (n_ret (n_bret (n_ret (n_done rfl (by decide) (Eq.trans (b := .int .i64 _) rfl (congrArg (Value.int .i64) ?_))))))))))))
   simp_all
 refine c_skip (n_bnormal (n_then (r_list (by kernel_rfl) (s_val (v_addL (c := 1) rfl rfl (by decide) (by decide)) (s_val (v_mvI rfl) (s_end (n_thenR (r_succ (r_seq (by kernel_rfl) (s_val (v_lsI rfl rfl) (s_nil (c_seq (c_condTh rfl rfl rfl (c_skip (n_then (c_seq (c_block (r_seq (by kernel_rfl) (s_val (v_idxS (size := 1) (k := .i64) (by kernel_rfl) rfl rfl (by decide)) ?_)))))))))))))))))))
 refine s_val (v_load1o (v := I y) (by kernel_rfl) rfl (by simpa using hy)) (s_val (v_asI rfl) (s_nil (r_seq (by kernel_rfl) (s_val (v_mvI rfl) (s_val (v_mvI rfl) (s_val (v_neq (k := .i64) rfl rfl) (s_nil (c_condN rfl rfl (fun h14 => ?_) (fun h14 => ?_)))))))))
 · refine r_seq (by kernel_rfl) (s_val (v_mvI rfl) (s_val (v_asI rfl) (s_nil (c_ret (n_bret (n_ret (n_ret (n_bret (n_ret (n_done rfl (by decide) (Eq.trans (b := .int .i64 _) rfl (congrArg (Value.int .i64) ?_))))))))))))
   simp_all
 refine c_skip (n_bnormal (n_then (r_list (by kernel_rfl) (s_val (v_addL (c := 2) rfl rfl (by decide) (by decide)) (s_val (v_mvI rfl) (s_end (n_thenR (r_succ (r_seq (by kernel_rfl) (s_val (v_lsI rfl rfl) (s_nil (c_seq (c_condFh rfl rfl rfl (c_exit (n_exit (n_exit (n_bhere (n_then (r_seq (by kernel_rfl) ?_)))))))))))))))))))
 refine s_val (v_mvI rfl) (s_val (v_asI rfl) (s_nil (c_ret (n_done rfl (by decide) (Eq.trans (b := .int .i64 _) rfl (congrArg (Value.int .i64) ?_))))))
 simp_all
theorem g_compare (p q : PayS) (w : World) : Gives Tryz.prog 97 [.agg p.cells, .agg q.cells] w (I (cmpP p q)) := by
 refine gives_of Tryz.func97 rfl Tryz.ntmps97 (by simp) (r_seq (by kernel_rfl) (s_box (v := .agg _) rfl (fun b2 => ?_)))
 refine s_box (v := .agg _) rfl (fun b3 => ?_)
 refine s_val (v_asI rfl) (s_nil (t_seq (k := 10) (by kernel_rfl) (by kernel_rfl) (fun w hw => hw.drew) (by kernel_rfl) (q_val (v_fd 3 (by kernel_rfl) rfl) (q_val (v_ldI (by kernel_rfl) rfl (.there .here) rfl) (q_val (v_fd 3 (by kernel_rfl) rfl) (q_val (v_ldI (by kernel_rfl) rfl .here rfl) (q_call (by kernel_rfl) (fun w hw => g_Compare _ _ w) (q_val (v_fd 5 (by kernel_rfl) rfl) (q_val (v_ldI (by kernel_rfl) rfl (.there .here) rfl) (q_val (v_fd 5 (by kernel_rfl) rfl) (q_val (v_ldI (by kernel_rfl) rfl .here rfl) (q_call (by kernel_rfl) (fun w hw => g_Compare _ _ w) (q_tail (s_buildS (e := 3) (vs := [(0, .int .i64 _), (1, .int .i64 _)]) (cs := #[I (cmpI p.cls q.cls), I (cmpI p.seq q.seq)]) rfl (by kernel_rfl) (fun b15 => ?_)))))))))))))))
 refine s_call (by kernel_rfl) (fun w hw => g_Or b15 0 _ _ _ w ((cell_has hw .here).trans rfl) ((cell_has hw .here).trans rfl)) (s_val (v_asI rfl) (s_nil (c_ret (n_done rfl (by decide) (Eq.trans (b := .int .i64 _) rfl (congrArg (Value.int .i64) ?_))))))
 rfl
theorem g_Of1 (h : H) (ps : List PayS) (bh : Nat) (i k : Int) (p q : PayS) (w : World) (hp : PaysIn (At w) h.pa h.pl ps) (hcell : At w ⟨bh, 40, none⟩ (.slice h.pa h.pl h.pc)) (hi : 0 ≤ i) (hk : 0 ≤ k) (hpi : ps[i.toNat]? = some p) (hpk : ps[k.toNat]? = some q) : Gives Tryz.prog 96 [I i, I k, .pointer (some ⟨bh, 0, none⟩)] w (I (cmpP p q)) := by
 have hl := hp.1
 have hi1 := (List.getElem?_eq_some_iff.1 hpi).1
 have hk1 := (List.getElem?_eq_some_iff.1 hpk).1
 obtain ⟨b, o, hpa, hc⟩ := hp.some (k := i.toNat) (by omega)
 refine gives_of Tryz.func96 rfl Tryz.ntmps96 (by simp) (r_seq (by kernel_rfl) (s_val (v_asI rfl) (s_nil (d_seq (by kernel_rfl) (by kernel_rfl) (fun w hw => hw.drew) (by kernel_rfl) (q_val (v_fd 40 (by kernel_rfl) rfl) (q_val (v_load1o (v := .slice h.pa h.pl h.pc) (by kernel_rfl) rfl (by simpa using hcell)) (q_val (v_mvI rfl) (q_val (v_idxS (size := 6) (k := .i64) (by kernel_rfl) (congrArg (fun a => Value.slice a h.pl h.pc) hpa) rfl ⟨by omega, by omega⟩) (q_val (v_loadNo (cs := p.cells) (m := 6) (by kernel_rfl) rfl rfl (hc _ p hpi)) (q_val (v_fd 40 (by kernel_rfl) rfl) (q_val (v_load1o (v := .slice h.pa h.pl h.pc) (by kernel_rfl) rfl (by simpa using hcell)) (q_val (v_mvI rfl) (q_val (v_idxS (size := 6) (k := .i64) (by kernel_rfl) (congrArg (fun a => Value.slice a h.pl h.pc) hpa) rfl ⟨by omega, by omega⟩) (q_val (v_loadNo (cs := q.cells) (m := 6) (by kernel_rfl) rfl rfl (hc _ q hpk)) (q_call (by kernel_rfl) (fun w hw => g_compare p q w) (q_val (v_asI rfl) (q_nil (c_ret (n_done rfl (by decide) (Eq.trans (b := .int .i64 _) rfl (congrArg (Value.int .i64) ?_)))))))))))))))))))))
 rfl
end Go.Proofs.YtmkboljfbmlebacGreat
namespace Go.Proofs
open Go.Shelf
def Tryz.sortL_ren : Go.Shelf.Ren := ⟨fun | 6 => 95 | 15 => 101 | 14 => 100 | 28 => 112 | 29 => 113 | 20 => 104 | 21 => 105 | 22 => 106 | 23 => 107 | 24 => 108 | 25 => 109 | 26 => 110 | 27 => 111 | 46 => 115 | 47 => 116 | 48 => 117 | 49 => 118 | 50 => 119 | 57 => 120 | n => n, fun | 22 => 29 | 24 => 3 | 25 => 116 | 3 => 3 | 39 => 120 | 0 => 0 | 53 => 130 | 55 => 132 | 4 => 4 | 46 => 124 | 45 => 123 | 50 => 112 | 5 => 5 | 9 => 9 | 66 => 133 | 70 => 137 | 76 => 139 | 77 => 140 | n => n, fun | n => n⟩
theorem Tryz.sortL : Go.Proofs.SlLaysF.n6 Tryz.prog Tryz.sortL_ren := {
 mixed := by kernel_rfl
 f6 := ⟨Tryz.f95.name, by decide, Tryz.func95.trans (congrArg some (by kernel_rfl))⟩
 f14 := ⟨Tryz.f100.name, by decide, Tryz.func100.trans (congrArg some (by kernel_rfl))⟩
 f15 := Tryz.func101.trans (congrArg some (by kernel_rfl))
 f20 := ⟨Tryz.f104.name, by decide, Tryz.func104.trans (congrArg some (by kernel_rfl))⟩
 f21 := ⟨Tryz.f105.name, by decide, Tryz.func105.trans (congrArg some (by kernel_rfl))⟩
 f22 := ⟨Tryz.f106.name, by decide, Tryz.func106.trans (congrArg some (by kernel_rfl))⟩
 f23 := ⟨Tryz.f107.name, by decide, Tryz.func107.trans (congrArg some (by kernel_rfl))⟩
 f24 := ⟨Tryz.f108.name, by decide, Tryz.func108.trans (congrArg some (by kernel_rfl))⟩
 f25 := ⟨Tryz.f109.name, by decide, Tryz.func109.trans (congrArg some (by kernel_rfl))⟩
 f26 := ⟨Tryz.f110.name, by decide, Tryz.func110.trans (congrArg some (by kernel_rfl))⟩
 f27 := ⟨Tryz.f111.name, by decide, Tryz.func111.trans (congrArg some (by kernel_rfl))⟩
 f28 := Tryz.func112.trans (congrArg some (by kernel_rfl))
 f29 := Tryz.func113.trans (congrArg some (by kernel_rfl))
 f46 := ⟨Tryz.f115.name, by decide, Tryz.func115.trans (congrArg some (by kernel_rfl))⟩
 f47 := Tryz.func116.trans (congrArg some (by kernel_rfl))
 f48 := Tryz.func117.trans (congrArg some (by kernel_rfl))
 f49 := ⟨Tryz.f118.name, by decide, Tryz.func118.trans (congrArg some (by kernel_rfl))⟩
 f50 := ⟨Tryz.f119.name, by decide, Tryz.func119.trans (congrArg some (by kernel_rfl))⟩
 f57 := ⟨Tryz.f120.name, by decide, Tryz.func120.trans (congrArg some (by kernel_rfl))⟩
 t0 := Tryz.underlying0
 a0 := Tryz.isAgg0
 z0 := Tryz.sizeOf0
 v0 := Tryz.zeroValue0
 t3 := Tryz.underlying3
 a3 := Tryz.isAgg3
 z3 := Tryz.sizeOf3
 v3 := Tryz.zeroValue3
 t4 := Tryz.underlying4
 a4 := Tryz.isAgg4
 z4 := Tryz.sizeOf4
 v4 := Tryz.zeroValue4
 t5 := Tryz.underlying5
 a5 := Tryz.isAgg5
 z5 := Tryz.sizeOf5
 v5 := Tryz.zeroValue5
 t9 := Tryz.underlying9
 a9 := Tryz.isAgg9
 z9 := Tryz.sizeOf9
 v9 := Tryz.zeroValue9
 t22 := Tryz.underlying29
 a22 := Tryz.isAgg29
 z22 := Tryz.sizeOf29
 v22 := Tryz.zeroValue29
 a24 := Tryz.isAgg3
 z24 := Tryz.sizeOf3
 t25 := Tryz.underlying116
 a25 := Tryz.isAgg116
 z25 := Tryz.sizeOf116
 v25 := Tryz.zeroValue116
 t39 := Tryz.underlying120
 a39 := Tryz.isAgg120
 z39 := Tryz.sizeOf120
 v39 := Tryz.zeroValue120
 t45 := Tryz.underlying123
 a45 := Tryz.isAgg123
 z45 := Tryz.sizeOf123
 v45 := Tryz.zeroValue123
 t46 := Tryz.underlying124
 a46 := Tryz.isAgg124
 z46 := Tryz.sizeOf124
 v46 := Tryz.zeroValue124
 t50 := Tryz.underlying112
 a50 := Tryz.isAgg112
 z50 := Tryz.sizeOf112
 v50 := Tryz.zeroValue112
 t53 := Tryz.underlying130
 a53 := Tryz.isAgg130
 z53 := Tryz.sizeOf130
 v53 := Tryz.zeroValue130
 t55 := Tryz.underlying132
 a55 := Tryz.isAgg132
 z55 := Tryz.sizeOf132
 v55 := Tryz.zeroValue132
 t66 := Tryz.underlying133
 a66 := Tryz.isAgg133
 z66 := Tryz.sizeOf133
 v66 := Tryz.zeroValue133
 t70 := Tryz.underlying137
 a70 := Tryz.isAgg137
 z70 := Tryz.sizeOf137
 v70 := Tryz.zeroValue137
 t76 := Tryz.underlying139
 a76 := Tryz.isAgg139
 z76 := Tryz.sizeOf139
 v76 := Tryz.zeroValue139
 t77 := Tryz.underlying140
 a77 := Tryz.isAgg140
 z77 := Tryz.sizeOf140
 v77 := Tryz.zeroValue140 }
end Go.Proofs
namespace Go.Proofs.YtmkboljfbmlebacGreat
open Go.RowKit
set_option linter.unusedSimpArgs false
set_option linter.unusedVariables false
abbrev Pl (ps : List PayS) : Type := { i : Int // 0 ≤ i ∧ i.toNat < ps.length }
def Pl.pay {ps : List PayS} (x : Pl ps) : PayS := ps[x.1.toNat]'x.2.2
def Pl.enc {ps : List PayS} (x : Pl ps) : Value := I x.1
def Pl.cf {ps : List PayS} (x y : Pl ps) : Int := cmpP x.pay y.pay
theorem Pl.lt {ps : List PayS} (x y : Pl ps) : ltOf (Pl.cf (ps := ps)) x y = true ↔ payLt x.pay y.pay := by
 unfold ltOf Pl.cf
 rw [decide_eq_true_iff, cmpP_neg]
theorem Pl.swo (ps : List PayS) : Sort.SWO (ltOf (Pl.cf (ps := ps))) where
 irrefl x := by
   cases h : ltOf (Pl.cf (ps := ps)) x x
   · rfl
   · exact absurd ((Pl.lt x x).1 h) (payLt_irrefl _)
 trans x y z h1 h2 := (Pl.lt x z).2 (payLt_trans ((Pl.lt x y).1 h1) ((Pl.lt y z).1 h2))
 ntrans x y z h1 h2 := by
   cases h : ltOf (Pl.cf (ps := ps)) x z
   · rfl
   · exact absurd ((Pl.lt x z).1 h) (not_payLt_trans (fun e => by rw [(Pl.lt y z).2 e] at h2; cases h2) (fun e => by rw [(Pl.lt x y).2 e] at h1; cases h1))
section
variable {w0 w : World} {F : Addr → Value → Prop} {L : List (Nat × Obj)} {g e : Nat} {cur : Array Value}
theorem has_sort {α : Type} [Inhabited α] (enc : α → Value) (hw : Has w0 F ((g, .cells cur e (0, 0)) :: L) w) (m : Nat) (dk : Array α) (os : Array Obj) : Has w0 F ((g, .cells (Sort.putCells enc 0 dk cur) e (0, 0)) :: L) (sortWorld enc w g 0 m dk os) := by
 have hg : w.heap[g]? = some (.cells cur e (0, 0)) := hw.look .here
 have h1 : Has w0 F ((g, .cells (Sort.putCells enc 0 dk cur) e (0, 0)) :: L) (Sort.putRow enc (Sort.ahead w m) g 0 dk) := by
   refine hw.turn .here rfl rfl rfl (by simp [Sort.putRow, Sort.mapBlock, Sort.ahead]) ?_ (fun k hk => ?_) (Nat.le_add_right _ _)
   · show (w.heap.modify g _)[g]? = _
     rw [Array.getElem?_modify, if_pos rfl, hg]
     rfl
   · show (w.heap.modify g _)[k]? = _
     rw [Array.getElem?_modify, if_neg (Ne.symm hk)]
 exact h1.below (grow_bel _ 0 os)
end
section
variable {ops : Array Oper} {K : (Nat → Value) → World → Prop} {rest : List Oper} {f : Nat → Value} {d : Nat} {ty : TypeId} {pos : String} {af : Array Edge} {w0 : World} {F : Addr → Value → Prop} {E L : List (Nat × Obj)}
theorem s_sort {x y : Operand} {ats : Array TypeId} {cl e : Nat} {cb : List Value} {v : Value} {ws : List Int} {ps : List PayS} (hx : ev f x = v) (hy : ev f y = .func (.func cl) #[] cb.toArray) (eg : ∀ args w, (callFunc cl args).run Tryz.prog w = .ok (.enter cl args) w)
   (hE : ListE e 1 v ws.length (ws.map I) E) (hin : ∀ i ∈ ws, 0 ≤ i ∧ i.toNat < ps.length) (hlen : ws.length < 4611686018427387904)
   (hcmp : ∀ W, Has w0 F L W → ∀ (i j : Int) (p q : PayS), 0 ≤ i → 0 ≤ j → ps[i.toNat]? = some p → ps[j.toNat]? = some q → Gives Tryz.prog cl (I i :: I j :: cb) W (I (cmpP p q)))
   (kk : ∀ (E' : List (Nat × Obj)) (ws' : List Int), ListE e 1 v ws'.length (ws'.map I) E' → ws'.Perm ws → ws'.Pairwise (fun i j => ¬ lessK ps j i) → sC Tryz.prog ops K rest (upd f d (.tuple #[])) (Has w0 F (E' ++ L))) :
   sC Tryz.prog ops K (⟨some d, .call ⟨.value (.func 95), #[x, y], ats⟩, ty, pos, af, none⟩ :: rest) f (Has w0 F (E ++ L)) := by
 intro w hw
 unfold sw
 rw [if_pos wanted_free]
 unfold opk
 have hrc := run_call (P := Tryz.prog) (f := f) (k := 95) (xs := [x, y]) (ats := ats) (dst := some d) (ty := ty) (pos := pos) (af := af) (gd := none) (by kernel_rfl) w
 rw [hrc]
 show Calls Tryz.prog 95 #[ev f x, ev f y] w _
 rw [hx, hy]
 by_cases hws : ws = []
 · subst hws
   obtain ⟨a, c, rfl⟩ := hE.shape
   have hS := AnyF.slices_SortFunc_none (P := Tryz.prog) (ρ := Tryz.sortL_ren) { Tryz.sortL with } a c (.func (.func cl) #[] cb.toArray) w
   change Calls Tryz.prog 95 _ _ _ at hS
   refine hS.mono fun e' w' ⟨he, hw'⟩ => ⟨_, he, ?_⟩
   subst hw'
   exact kk E [] hE (List.Perm.refl _) List.Pairwise.nil _ hw
 · rcases hE.2 with ⟨_, h0, _⟩ | ⟨g, cap, cur, rfl, rfl, hnc, hcm, hcs, htake⟩
   · exact absurd (List.eq_nil_of_length_eq_zero h0) hws
   · obtain ⟨i0, r0, rfl⟩ : ∃ i r, ws = i :: r := by
       cases ws with
       | nil => exact absurd rfl hws
       | cons i r => exact ⟨i, r, rfl⟩
     generalize hwsd : i0 :: r0 = ws at *
     haveI : Inhabited (Pl ps) := ⟨⟨i0, hin i0 (by rw [← hwsd]; simp)⟩⟩
     have hw1 : Has w0 F ((g, .cells cur e (0, 0)) :: L) w := hw
     have hg : w.heap[g]? = some (.cells cur e (0, 0)) := hw1.look .here
     obtain ⟨D, hD⟩ : ∃ D : List (Pl ps), D.map (·.1) = ws := ⟨ws.attach.map fun i => ⟨i.1, hin i.1 i.2⟩, by simp⟩
     have hDl : D.length = ws.length := by rw [← hD]; simp
     have hcell : ∀ j, j < D.length → cur[j]? = some (I (D[j]!).1) := fun j hj => by
       have h1 : (ws.map I)[j]? = some (I (D[j]!).1) := by
         rw [← hD]
         simp [hj]
       rw [← htake, List.getElem?_take] at h1
       split at h1
       · simpa using h1
       · cases h1
     have hH : Sort.Holds (Pl.enc (ps := ps)) w g 0 D.toArray := fun j hj => by
       have hj' : j < D.length := by simpa using hj
       refine ⟨?_, ?_⟩
       · rw [Nat.zero_add, cell_of_row w g j cur e (0, 0) hg, hcell j hj']
         simp [Pl.enc, hj']
       · simp [World.frozen?, hg]
     have hc1 : CmpLays1 Tryz.prog cl cb.toArray (Pl.enc (ps := ps)) Pl.cf g 0 D.toArray.size w := fun m os dk hs x' y' => by
       have hW := (has_sort (Pl.enc (ps := ps)) hw1 m dk os).tail
       have h2 := (hcmp _ hW x'.1 y'.1 x'.pay y'.pay x'.2.1 y'.2.1 (List.getElem?_eq_getElem x'.2.2) (List.getElem?_eq_getElem y'.2.2)).out
       have e1 : (I x'.1 :: I y'.1 :: cb).toArray = #[Pl.enc x', Pl.enc y'] ++ cb.toArray := by simp [Pl.enc]
       rw [e1] at h2
       exact h2.mono fun e' w' ⟨he, hb⟩ => ⟨he, hb.grown⟩
     have hS := Any.slices_SortFunc Tryz.sortL (Pl.enc (ps := ps)) (fun _ => rfl) Pl.cf (Pl.swo ps) cl cb.toArray g 0 cap D.toArray w eg hc1 hH (Array.getElem?_eq_some_iff.1 hg).1 (by simpa [hDl] using hlen)
     change Calls Tryz.prog 95 _ _ _ at hS
     rw [show D.toArray.size = ws.length by simp [hDl]] at hS
     refine hS.mono fun e' w' ⟨he, d', n', os, hp, hso, hw'⟩ => ⟨_, he, ?_⟩
     subst hw'
     obtain ⟨hp1, _, hp3⟩ := hp
     have hd'l : d'.size = ws.length := by rw [hp1]; simp [hDl]
     have hx1 : d'.extract 0 ws.length = d' := by rw [← hd'l]; simp
     have hx2 : D.toArray.extract 0 ws.length = D.toArray := by rw [← hDl]; simp
     rw [hx1, hx2] at hp3
     have hperm : (d'.toList.map (·.1)).Perm ws := by rw [← hD]; exact (hp3.map _)
     refine kk [(g, .cells (Sort.putCells (Pl.enc (ps := ps)) 0 d' cur) e (0, 0))] (d'.toList.map (·.1)) ?_ hperm ?_ _ (has_sort (Pl.enc (ps := ps)) hw1 n' d' os)
     · refine ⟨by simp, .inr ⟨g, cap, _, by simp [hd'l], rfl, by simpa [hd'l] using hnc, hcm, by simp [Sort.putCells, hcs], ?_⟩⟩
       apply List.ext_getElem?
       intro j
       rw [List.getElem?_take]
       have hle : ws.length ≤ cur.size := by rw [hcs]; omega
       by_cases hj : j < ws.length
       · rw [if_pos (by simpa [hd'l] using hj)]
         have hjc : j < cur.size := by omega
         have hjd : j < d'.size := by omega
         simp [Sort.putCells, hjc, hjd, Pl.enc]
       · rw [if_neg (by simpa [hd'l] using hj)]
         symm
         simp [hd'l]; omega
     · rw [List.pairwise_map, List.pairwise_iff_getElem]
       intro i j hi hj hij hl
       have hi' : i < d'.size := by simpa using hi
       have hj' : j < d'.size := by simpa using hj
       have h3 := hso i j (Nat.zero_le _) hij (by omega)
       rw [getElem!_pos d' j hj', getElem!_pos d' i hi'] at h3
       obtain ⟨p, q, h4, h5, h6⟩ := hl
       have h7 : d'[j].pay = p := by
         have := List.getElem?_eq_getElem d'[j].2.2
         simp only [Array.getElem_toList] at h4
         rw [this] at h4; simpa [Pl.pay] using h4
       have h8 : d'[i].pay = q := by
         have := List.getElem?_eq_getElem d'[i].2.2
         simp only [Array.getElem_toList] at h5
         rw [this] at h5; simpa [Pl.pay] using h5
       rw [(Pl.lt d'[j] d'[i]).2 (by rw [h7, h8]; exact h6)] at h3
       cases h3
end
end Go.Proofs.YtmkboljfbmlebacGreat
