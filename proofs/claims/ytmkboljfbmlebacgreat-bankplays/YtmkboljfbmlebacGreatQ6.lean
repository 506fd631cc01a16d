/- What the laws of this place stand on, part 6. Each part names its own conditions in what it states. -/
import Derived.Test.YtmkboljfbmlebacGreatQ5
import Derived.Laws.IdiomStrings
import Derived.Laws.Strings3
import Derived.Laws.Concat
import Derived.Laws.Entries
namespace Go.Proofs.YtmkboljfbmlebacGreat
open Go.RowKit
set_option linter.unusedSimpArgs false
set_option linter.unusedVariables false
set_option maxRecDepth 100000
attribute [local irreducible] cC sC nC rC qw
set_option maxHeartbeats 4000000 in
theorem gr_MostOf (h : H) (ps : List PayS) (w : World) (hp : PaysIn (At w) h.pa h.pl ps) (hb : h.pl * 48 ≤ 281474976710656) (hlc : h.pl ≤ h.pc) : Gives Tryz.prog 49 [.agg h.cells] w (.agg (rowA (mostM h.core ps))) := by
 refine gives_of Tryz.func49 rfl Tryz.ntmps49 (by simp) (r_seq (by kernel_rfl) (s_box (v := .agg _) rfl (fun b1 => ?_)))
 refine s_alloc (z := .agg (rowA fun _ => 0)) (by kernel_rfl) (fun b2 => ?_)
 refine s_nil (r_seq (by kernel_rfl) (s_alloc (z := .agg (rowA fun _ => 0)) (by kernel_rfl) (fun b3 => ?_)))
 refine s_alloc (z := .agg (rowA fun _ => 0)) (by kernel_rfl) (fun b4 => ?_)
 refine s_alloc (z := .agg (rowA fun _ => 0)) (by kernel_rfl) (fun b5 => ?_)
 refine s_nil (c_seq (r_seq (by kernel_rfl) (s_val (v_loadA (m := 42) (by kernel_rfl) rfl (.there (.there (.there (.there .here)))) (H.size _)) (s_call (by kernel_rfl) (fun w hw => gr_IsHouse _ ps w (hp.at hw) hb hlc) (s_val (v_not rfl) (s_nil (c_condN rfl rfl (fun h13 => ?_) (fun h13 => ?_))))))))
 · refine r_seq (by kernel_rfl) (s_val (v_loadA (m := 4) (by kernel_rfl) rfl (.there (.there .here)) (rowA_size _)) (s_storeA (m := 4) (by kernel_rfl) rfl rfl (.there (.there (.there .here))) (rowA_size _) (rowA_size _) (rowA_all _) (s_nil (c_ret (n_ret (n_doneC (m := 4) rfl (by decide) rfl (by kernel_rfl) (.there (.there (.there .here))) (rowA_size _) (congrArg Value.agg ?_)))))))
   rw [mostM_bad (show goodB h.core ps = false from (isHouse_eq hp.1).symm.trans h13)]
   rfl
 refine c_skip (n_then (c_seq (r_seq (by kernel_rfl) (s_val (v_mvI rfl) (s_nil (c_block (c_loop (σ := KF) (fun (s : KF) f => ∃ g, (s.k ≤ 4 ∧ More (At w) s.F) ∧ f = (upd (upd (upd (upd (upd (upd g 1 (.pointer (some ⟨b1, 0, none⟩))) 2 (.pointer (some ⟨b2, 0, none⟩))) 3 (.pointer (some ⟨b3, 0, none⟩))) 4 (.pointer (some ⟨b4, 0, none⟩))) 5 (.pointer (some ⟨b5, 0, none⟩))) 15 (I s.k))) (fun (s : KF) => Has w s.F [(b5, .cells (rowA (sizeTo ps s.k)) 39), (b4, .cells (rowA (fun _ => 0)) 39), (b3, .cells (rowA (fun _ => 0)) 39), (b2, .cells (rowA (fun _ => 0)) 39), (b1, .cells h.cells 43)]) (fun (s : KF) => 4 - s.k) ⟨0, At w⟩ ⟨_, ⟨Nat.zero_le _, fun _ _ h => h⟩, live6 rfl rfl rfl rfl rfl rfl⟩ (fun w hw => by rw [show rowA (sizeTo ps 0) = rowA (fun _ => 0) from rowA_congr fun b hb => by unfold sizeTo; rw [if_neg (by omega)]]; exact hw) ?_)))))))
 rintro s _ ⟨g, ⟨hkl, hmo⟩, rfl⟩
 refine r_seq (by kernel_rfl) (s_val (v_lsI rfl rfl) (s_nil (c_seq (c_cond rfl rfl (fun h16 => ?_) (fun h16 => ?_)))))
 · have hk4 : s.k < 4 := by have := of_decide_eq_true h16; omega
   have hki : 0 ≤ (s.k : Int) ∧ (s.k : Int) < 4 := ⟨by omega, by omega⟩
   refine c_skip (n_then (c_seq (c_block (r_seq (by kernel_rfl) (s_val (v_mvI rfl) (s_val (v_asI rfl) (s_nil (r_list (by kernel_rfl) (s_val (v_mvI rfl) (s_val (v_loadA (m := 42) (by kernel_rfl) rfl (.there (.there (.there (.there .here)))) (H.size _)) (s_val (v_mvI rfl) (s_callF (by kernel_rfl) (fun w hw => gr_QueueOf h ps s.k w ((hp.mono hmo).at hw) hb hlc) (fun F21 v21 E21 hF21 hK21 hR21 => ?_)))))))))))))
   obtain ⟨a21, c21, rfl, ia21⟩ := (ints_of_list hR21 hK21).at
   refine s_val (v_lenS (T := 29) (m := 1) (by kernel_rfl) rfl rfl) (s_val (v_ixA 1 (by kernel_rfl) rfl rfl (by assumption)) (s_store1 (v := .int .i64 _) (by kernel_rfl) rfl rfl .here (rowA_set _ (by assumption)) rfl (s_end (n_bnormal (n_then (r_list (by kernel_rfl) (s_val (v_add rfl rfl (by omega)) (s_val (v_mvI rfl) (s_end (n_round (s := s) ⟨s.k + 1, F21⟩ ⟨_, ⟨by dsimp only; omega, fun a v h => hF21 a v (hmo a v h)⟩, live6 rfl rfl rfl rfl rfl rfl⟩ (fun _ hw => by rw [← size_step ps hk4]; exact hw) (by dsimp only; omega)))))))))))
 have hk4 : s.k = 4 := by have := of_decide_eq_false h16; omega
 have hgc : goodB h.core ps = true := (isHouse_eq hp.1).symm.trans h13
 have hl24 := (good_pays hgc).2.2
 have hmo0 := hmo
 refine c_exit (n_exit (n_exit (n_bhere (n_then (c_block (c_loop (σ := MG) (fun (s : MG) f => ∃ g, (Odo h.core ps s.n s.best ∧ More (At w) s.F) ∧ f = (upd (upd (upd (upd (upd g 1 (.pointer (some ⟨b1, 0, none⟩))) 2 (.pointer (some ⟨b2, 0, none⟩))) 3 (.pointer (some ⟨b3, 0, none⟩))) 4 (.pointer (some ⟨b4, 0, none⟩))) 5 (.pointer (some ⟨b5, 0, none⟩)))) (fun (s : MG) => Has w s.F [(b5, .cells (rowA (qLen ps)) 39), (b4, .cells (rowA (s.n)) 39), (b3, .cells (rowA (s.best)) 39), (b2, .cells (rowA (fun _ => 0)) 39), (b1, .cells h.cells 43)]) (fun (s : MG) => rank s.n) ⟨s.F, fun _ => 0, fun _ => 0⟩ ⟨_, ⟨odo_start hgc (fun _ _ => rfl) (fun _ _ => rfl), hmo0⟩, live5 rfl rfl rfl rfl rfl⟩ (fun w hw => by rw [hk4, size_all] at hw; exact hw) ?_))))))
 rintro s _ ⟨g, ⟨ho, hmo⟩, rfl⟩
 refine c_block (r_seq (by kernel_rfl) (s_val (v_asB rfl) (s_nil (c_seq (r_seq (by kernel_rfl) (s_val (v_mvI rfl) (s_nil (c_block (c_loop (σ := Nat) (fun (m : Nat) f => ∃ g, (m ≤ 4) ∧ f = (upd (upd (upd (upd (upd (upd (upd g 1 (.pointer (some ⟨b1, 0, none⟩))) 2 (.pointer (some ⟨b2, 0, none⟩))) 3 (.pointer (some ⟨b3, 0, none⟩))) 4 (.pointer (some ⟨b4, 0, none⟩))) 5 (.pointer (some ⟨b5, 0, none⟩))) 7 (.bool (moreTo s.best s.n m))) 25 (I m))) (fun (m : Nat) => Has w s.F [(b5, .cells (rowA (qLen ps)) 39), (b4, .cells (rowA (s.n)) 39), (b3, .cells (rowA (s.best)) 39), (b2, .cells (rowA (fun _ => 0)) 39), (b1, .cells h.cells 43)]) (fun (m : Nat) => 4 - m) 0 ⟨_, Nat.zero_le _, live7 rfl rfl rfl rfl rfl rfl rfl⟩ (fun w hw => hw) ?_)))))))))
 rintro m _ ⟨g, hml, rfl⟩
 refine r_seq (by kernel_rfl) (s_val (v_lsI rfl rfl) (s_nil (c_seq (c_cond rfl rfl (fun h26 => ?_) (fun h26 => ?_)))))
 · have hm0 := of_decide_eq_true h26
   have hmi : 0 ≤ (m : Int) ∧ (m : Int) < 4 := ⟨by omega, by omega⟩
   refine c_skip (n_then (c_seq (c_block (r_seq (by kernel_rfl) (s_val (v_mvI rfl) (s_val (v_asI rfl) (s_nil (d_list (by kernel_rfl) (by kernel_rfl) (fun w hw => hw.drew) (by kernel_rfl) (q_val (v_mvB rfl) (q_val (v_mvB rfl) (q_split (s := 29) rfl (fun h29 => ?_) (fun h29 => ?_))))))))))))
   · refine q_pass rfl rfl h29 (q_pass rfl rfl h29 (q_pass rfl rfl h29 (q_pass rfl rfl h29 (q_pass rfl rfl h29 (q_pass rfl rfl h29 (q_pass rfl rfl h29 (q_val (v_pickT (v := .bool _) rfl h29 rfl) (q_val (v_asB rfl) (q_end (n_bnormal (n_then (r_list (by kernel_rfl) (s_val (v_add rfl rfl (by omega)) (s_val (v_mvI rfl) (s_end (n_round (m + 1) ⟨_, (by omega), live7 rfl rfl rfl rfl rfl (congrArg Value.bool (by simp only [moreTo, *, bls, cond_true, cond_false, if_true, if_false, Bool.false_eq_true, decide_true, decide_false])) rfl⟩ (fun _ hw => hw) (by omega)))))))))))))))))
   refine q_want rfl rfl h29 (q_val (v_mvI rfl) (q_want rfl rfl h29 (q_val (v_ixA 1 (by kernel_rfl) rfl rfl (by assumption)) (q_want rfl rfl h29 (q_val (v_ldI (by kernel_rfl) rfl (.there .here) (rowA_at0 _ (by assumption))) (q_want rfl rfl h29 (q_val (v_mvI rfl) (q_want rfl rfl h29 (q_val (v_ixA 1 (by kernel_rfl) rfl rfl (by assumption)) (q_want rfl rfl h29 (q_val (v_ldI (by kernel_rfl) rfl (.there (.there .here)) (rowA_at0 _ (by assumption))) (q_want rfl rfl h29 (q_val (v_gtr (k := .i64) rfl rfl) (q_val (v_pickF (v := .bool _) rfl h29 rfl) (q_val (v_asB rfl) (q_end (n_bnormal (n_then (r_list (by kernel_rfl) ?_)))))))))))))))))))
   refine s_val (v_add rfl rfl (by omega)) (s_val (v_mvI rfl) (s_end (n_round (m + 1) ⟨_, (by omega), live7 rfl rfl rfl rfl rfl (congrArg Value.bool (by simp only [moreTo, *, bls, cond_true, cond_false, if_true, if_false, Bool.false_eq_true, decide_true, decide_false])) rfl⟩ (fun _ hw => hw) (by omega))))
 have hm4 : m = 4 := by have := of_decide_eq_false h26; omega
 subst hm4
 refine c_exit (n_exit (n_exit (n_bhere (n_then (c_seq (r_seq (by kernel_rfl) (s_val (v_mvB rfl) (s_val (v_mvB rfl) (s_splitR (s := 40) rfl (fun h40 => ?_) (fun h40 => ?_))))))))))
 · refine s_pass rfl rfl h40 (s_pass rfl rfl h40 (s_pass rfl rfl h40 (s_val (v_pickF (v := .bool _) rfl h40 rfl) (s_nil (c_condFh rfl rfl rfl (c_skip (n_then (r_seq (by kernel_rfl) (s_val (v_asI rfl) (s_nil (c_seq (c_block (c_rounds 5 (r_succ (c_seq (d_seq (by kernel_rfl) (by kernel_rfl) (fun w hw => hw.drew) (by kernel_rfl) (q_val (v_mvI rfl) (q_val (v_lsI rfl rfl) (q_val (v_mvB rfl) ?_)))))))))))))))))))
   refine q_want rfl rfl rfl (q_val (v_mvI rfl) (q_want rfl rfl rfl (q_val (v_ixA 1 (by kernel_rfl) rfl rfl (by decide)) (q_want rfl rfl rfl (q_val (v_ldI (by kernel_rfl) rfl (.there .here) (rowA_at0 _ (by decide))) (q_want rfl rfl rfl (q_val (v_mvI rfl) (q_want rfl rfl rfl (q_val (v_ixA 1 (by kernel_rfl) rfl rfl (by decide)) (q_want rfl rfl rfl (q_val (v_ldI (by kernel_rfl) rfl .here (rowA_at0 _ (by decide))) (q_want rfl rfl rfl (q_val (v_eql (k := .i64) rfl rfl) (q_val (v_pickT (v := .bool _) rfl rfl rfl) (q_nil (c_condR rfl rfl (fun h68 => ?_) (fun h68 => ?_)))))))))))))))))
   · have q0 := of_decide_eq_false h68
     try simp [up1] at q0
     refine c_exit (n_exit (n_exit (n_bhere (n_then (c_seq (r_seq (by kernel_rfl) (s_val (v_mvI rfl) (s_val (v_eql (k := .i64) rfl rfl) (s_nil (c_condFh rfl rfl rfl (c_skip (n_then ?_))))))))))))
     have hseen : Seen h.core ps s.n s.best := ho.less (more_none h40)
     have hsz0 := ho.size 0 (by omega)
     have hq24 : qLen ps 0 ≤ 24 := by have := queueM_len ps 0; unfold qLen; omega
     have hnn : s.n 0 = s.n 0 := by simp [up1]
     have hnext := hseen.next (n2 := (up1 s.n 0 ((s.n) 0 + 1))) ho.size 0 (by omega) (fun b h0 h1 => by
       have hb4 : b = 0 ∨ b = 1 ∨ b = 2 ∨ b = 3 := by omega
       rcases hb4 with rfl | rfl | rfl | rfl <;> first | (exfalso; omega) | exact ⟨by assumption, by simp [up1]⟩) ⟨by assumption, by simp [up1]⟩ (fun b h0 h1 => by
       have hb4 : b = 0 ∨ b = 1 ∨ b = 2 ∨ b = 3 := by omega
       rcases hb4 with rfl | rfl | rfl | rfl <;> first | (exfalso; omega) | simp [up1])
     refine r_list (by kernel_rfl) (s_val (v_mvI rfl) (s_val (v_ixA 1 (by kernel_rfl) rfl rfl (by decide)) (s_val (v_ldI (by kernel_rfl) rfl (.there .here) (rowA_at0 _ (by decide))) (s_val (v_add rfl rfl (by omega)) (s_val (v_ixA 1 (by kernel_rfl) rfl rfl (by decide)) (s_store1 (v := .int .i64 _) (by kernel_rfl) rfl rfl (.there .here) (rowA_set _ (by decide)) rfl (s_end (n_bnormal (n_round (s := s) ⟨s.F, (up1 s.n 0 ((s.n) 0 + 1)), s.best⟩ ⟨_, ⟨hnext.1, hmo⟩, live5 rfl rfl rfl rfl rfl⟩ (fun _ hw => hw) (rank_less hl24 ho.size hnext.2))))))))))
   have q0 := of_decide_eq_true h68
   try simp [up1] at q0
   refine c_skip (n_then (c_block (r_seq (by kernel_rfl) (s_val (v_mvI rfl) (s_val (v_ixA 1 (by kernel_rfl) rfl rfl (by decide)) (s_store1 (v := .int .i64 _) (by kernel_rfl) rfl rfl (.there .here) (rowA_set _ (by decide)) rfl (s_nil (r_list (by kernel_rfl) (s_val (v_mvI rfl) (s_val (v_addL (c := 1) rfl rfl (by decide) (by decide)) (s_val (v_asI rfl) (s_end (n_bnormal (n_thenR (r_succ (c_seq (d_seq (by kernel_rfl) (by kernel_rfl) (fun w hw => hw.drew) (by kernel_rfl) (q_val (v_mvI rfl) (q_val (v_lsI rfl rfl) ?_)))))))))))))))))))
   refine q_val (v_mvB rfl) (q_want rfl rfl rfl (q_val (v_mvI rfl) (q_want rfl rfl rfl (q_val (v_ixA 1 (by kernel_rfl) rfl rfl (by decide)) (q_want rfl rfl rfl (q_val (v_ldI (by kernel_rfl) rfl (.there .here) (rowA_at0 _ (by decide))) (q_want rfl rfl rfl (q_val (v_mvI rfl) (q_want rfl rfl rfl (q_val (v_ixA 1 (by kernel_rfl) rfl rfl (by decide)) (q_want rfl rfl rfl (q_val (v_ldI (by kernel_rfl) rfl .here (rowA_at0 _ (by decide))) (q_want rfl rfl rfl (q_val (v_eql (k := .i64) rfl rfl) (q_val (v_pickT (v := .bool _) rfl rfl rfl) (q_nil (c_condR rfl rfl (fun h68 => ?_) (fun h68 => ?_))))))))))))))))))
   · have q1 := of_decide_eq_false h68
     try simp [up1] at q1
     refine c_exit (n_exit (n_exit (n_bhere (n_then (c_seq (r_seq (by kernel_rfl) (s_val (v_mvI rfl) (s_val (v_eql (k := .i64) rfl rfl) (s_nil (c_condFh rfl rfl rfl (c_skip (n_then ?_))))))))))))
     have hseen : Seen h.core ps s.n s.best := ho.less (more_none h40)
     have hsz1 := ho.size 1 (by omega)
     have hq24 : qLen ps 1 ≤ 24 := by have := queueM_len ps 1; unfold qLen; omega
     have hnn : (up1 s.n 0 0) 1 = s.n 1 := by simp [up1]
     have hnext := hseen.next (n2 := (up1 (up1 s.n 0 0) 1 (((up1 s.n 0 0)) 1 + 1))) ho.size 1 (by omega) (fun b h0 h1 => by
       have hb4 : b = 0 ∨ b = 1 ∨ b = 2 ∨ b = 3 := by omega
       rcases hb4 with rfl | rfl | rfl | rfl <;> first | (exfalso; omega) | exact ⟨by assumption, by simp [up1]⟩) ⟨by assumption, by simp [up1]⟩ (fun b h0 h1 => by
       have hb4 : b = 0 ∨ b = 1 ∨ b = 2 ∨ b = 3 := by omega
       rcases hb4 with rfl | rfl | rfl | rfl <;> first | (exfalso; omega) | simp [up1])
     refine r_list (by kernel_rfl) (s_val (v_mvI rfl) (s_val (v_ixA 1 (by kernel_rfl) rfl rfl (by decide)) (s_val (v_ldI (by kernel_rfl) rfl (.there .here) (rowA_at0 _ (by decide))) (s_val (v_add rfl rfl (by omega)) (s_val (v_ixA 1 (by kernel_rfl) rfl rfl (by decide)) (s_store1 (v := .int .i64 _) (by kernel_rfl) rfl rfl (.there .here) (rowA_set _ (by decide)) rfl (s_end (n_bnormal (n_round (s := s) ⟨s.F, (up1 (up1 s.n 0 0) 1 (((up1 s.n 0 0)) 1 + 1)), s.best⟩ ⟨_, ⟨hnext.1, hmo⟩, live5 rfl rfl rfl rfl rfl⟩ (fun _ hw => hw) (rank_less hl24 ho.size hnext.2))))))))))
   have q1 := of_decide_eq_true h68
   try simp [up1] at q1
   refine c_skip (n_then (c_block (r_seq (by kernel_rfl) (s_val (v_mvI rfl) (s_val (v_ixA 1 (by kernel_rfl) rfl rfl (by decide)) (s_store1 (v := .int .i64 _) (by kernel_rfl) rfl rfl (.there .here) (rowA_set _ (by decide)) rfl (s_nil (r_list (by kernel_rfl) (s_val (v_mvI rfl) (s_val (v_addL (c := 2) rfl rfl (by decide) (by decide)) (s_val (v_asI rfl) (s_end (n_bnormal (n_thenR (r_succ (c_seq (d_seq (by kernel_rfl) (by kernel_rfl) (fun w hw => hw.drew) (by kernel_rfl) (q_val (v_mvI rfl) (q_val (v_lsI rfl rfl) ?_)))))))))))))))))))
   refine q_val (v_mvB rfl) (q_want rfl rfl rfl (q_val (v_mvI rfl) (q_want rfl rfl rfl (q_val (v_ixA 1 (by kernel_rfl) rfl rfl (by decide)) (q_want rfl rfl rfl (q_val (v_ldI (by kernel_rfl) rfl (.there .here) (rowA_at0 _ (by decide))) (q_want rfl rfl rfl (q_val (v_mvI rfl) (q_want rfl rfl rfl (q_val (v_ixA 1 (by kernel_rfl) rfl rfl (by decide)) (q_want rfl rfl rfl (q_val (v_ldI (by kernel_rfl) rfl .here (rowA_at0 _ (by decide))) (q_want rfl rfl rfl (q_val (v_eql (k := .i64) rfl rfl) (q_val (v_pickT (v := .bool _) rfl rfl rfl) (q_nil (c_condR rfl rfl (fun h68 => ?_) (fun h68 => ?_))))))))))))))))))
   · have q2 := of_decide_eq_false h68
     try simp [up1] at q2
     refine c_exit (n_exit (n_exit (n_bhere (n_then (c_seq (r_seq (by kernel_rfl) (s_val (v_mvI rfl) (s_val (v_eql (k := .i64) rfl rfl) (s_nil (c_condFh rfl rfl rfl (c_skip (n_then ?_))))))))))))
     have hseen : Seen h.core ps s.n s.best := ho.less (more_none h40)
     have hsz2 := ho.size 2 (by omega)
     have hq24 : qLen ps 2 ≤ 24 := by have := queueM_len ps 2; unfold qLen; omega
     have hnn : (up1 (up1 s.n 0 0) 1 0) 2 = s.n 2 := by simp [up1]
     have hnext := hseen.next (n2 := (up1 (up1 (up1 s.n 0 0) 1 0) 2 (((up1 (up1 s.n 0 0) 1 0)) 2 + 1))) ho.size 2 (by omega) (fun b h0 h1 => by
       have hb4 : b = 0 ∨ b = 1 ∨ b = 2 ∨ b = 3 := by omega
       rcases hb4 with rfl | rfl | rfl | rfl <;> first | (exfalso; omega) | exact ⟨by assumption, by simp [up1]⟩) ⟨by assumption, by simp [up1]⟩ (fun b h0 h1 => by
       have hb4 : b = 0 ∨ b = 1 ∨ b = 2 ∨ b = 3 := by omega
       rcases hb4 with rfl | rfl | rfl | rfl <;> first | (exfalso; omega) | simp [up1])
     refine r_list (by kernel_rfl) (s_val (v_mvI rfl) (s_val (v_ixA 1 (by kernel_rfl) rfl rfl (by decide)) (s_val (v_ldI (by kernel_rfl) rfl (.there .here) (rowA_at0 _ (by decide))) (s_val (v_add rfl rfl (by omega)) (s_val (v_ixA 1 (by kernel_rfl) rfl rfl (by decide)) (s_store1 (v := .int .i64 _) (by kernel_rfl) rfl rfl (.there .here) (rowA_set _ (by decide)) rfl (s_end (n_bnormal (n_round (s := s) ⟨s.F, (up1 (up1 (up1 s.n 0 0) 1 0) 2 (((up1 (up1 s.n 0 0) 1 0)) 2 + 1)), s.best⟩ ⟨_, ⟨hnext.1, hmo⟩, live5 rfl rfl rfl rfl rfl⟩ (fun _ hw => hw) (rank_less hl24 ho.size hnext.2))))))))))
   have q2 := of_decide_eq_true h68
   try simp [up1] at q2
   refine c_skip (n_then (c_block (r_seq (by kernel_rfl) (s_val (v_mvI rfl) (s_val (v_ixA 1 (by kernel_rfl) rfl rfl (by decide)) (s_store1 (v := .int .i64 _) (by kernel_rfl) rfl rfl (.there .here) (rowA_set _ (by decide)) rfl (s_nil (r_list (by kernel_rfl) (s_val (v_mvI rfl) (s_val (v_addL (c := 3) rfl rfl (by decide) (by decide)) (s_val (v_asI rfl) (s_end (n_bnormal (n_thenR (r_succ (c_seq (d_seq (by kernel_rfl) (by kernel_rfl) (fun w hw => hw.drew) (by kernel_rfl) (q_val (v_mvI rfl) (q_val (v_lsI rfl rfl) ?_)))))))))))))))))))
   refine q_val (v_mvB rfl) (q_want rfl rfl rfl (q_val (v_mvI rfl) (q_want rfl rfl rfl (q_val (v_ixA 1 (by kernel_rfl) rfl rfl (by decide)) (q_want rfl rfl rfl (q_val (v_ldI (by kernel_rfl) rfl (.there .here) (rowA_at0 _ (by decide))) (q_want rfl rfl rfl (q_val (v_mvI rfl) (q_want rfl rfl rfl (q_val (v_ixA 1 (by kernel_rfl) rfl rfl (by decide)) (q_want rfl rfl rfl (q_val (v_ldI (by kernel_rfl) rfl .here (rowA_at0 _ (by decide))) (q_want rfl rfl rfl (q_val (v_eql (k := .i64) rfl rfl) (q_val (v_pickT (v := .bool _) rfl rfl rfl) (q_nil (c_condR rfl rfl (fun h68 => ?_) (fun h68 => ?_))))))))))))))))))
   · have q3 := of_decide_eq_false h68
     try simp [up1] at q3
     refine c_exit (n_exit (n_exit (n_bhere (n_then (c_seq (r_seq (by kernel_rfl) (s_val (v_mvI rfl) (s_val (v_eql (k := .i64) rfl rfl) (s_nil (c_condFh rfl rfl rfl (c_skip (n_then ?_))))))))))))
     have hseen : Seen h.core ps s.n s.best := ho.less (more_none h40)
     have hsz3 := ho.size 3 (by omega)
     have hq24 : qLen ps 3 ≤ 24 := by have := queueM_len ps 3; unfold qLen; omega
     have hnn : (up1 (up1 (up1 s.n 0 0) 1 0) 2 0) 3 = s.n 3 := by simp [up1]
     have hnext := hseen.next (n2 := (up1 (up1 (up1 (up1 s.n 0 0) 1 0) 2 0) 3 (((up1 (up1 (up1 s.n 0 0) 1 0) 2 0)) 3 + 1))) ho.size 3 (by omega) (fun b h0 h1 => by
       have hb4 : b = 0 ∨ b = 1 ∨ b = 2 ∨ b = 3 := by omega
       rcases hb4 with rfl | rfl | rfl | rfl <;> first | (exfalso; omega) | exact ⟨by assumption, by simp [up1]⟩) ⟨by assumption, by simp [up1]⟩ (fun b h0 h1 => by
       have hb4 : b = 0 ∨ b = 1 ∨ b = 2 ∨ b = 3 := by omega
       rcases hb4 with rfl | rfl | rfl | rfl <;> first | (exfalso; omega) | simp [up1])
     refine r_list (by kernel_rfl) (s_val (v_mvI rfl) (s_val (v_ixA 1 (by kernel_rfl) rfl rfl (by decide)) (s_val (v_ldI (by kernel_rfl) rfl (.there .here) (rowA_at0 _ (by decide))) (s_val (v_add rfl rfl (by omega)) (s_val (v_ixA 1 (by kernel_rfl) rfl rfl (by decide)) (s_store1 (v := .int .i64 _) (by kernel_rfl) rfl rfl (.there .here) (rowA_set _ (by decide)) rfl (s_end (n_bnormal (n_round (s := s) ⟨s.F, (up1 (up1 (up1 (up1 s.n 0 0) 1 0) 2 0) 3 (((up1 (up1 (up1 s.n 0 0) 1 0) 2 0)) 3 + 1)), s.best⟩ ⟨_, ⟨hnext.1, hmo⟩, live5 rfl rfl rfl rfl rfl⟩ (fun _ hw => hw) (rank_less hl24 ho.size hnext.2))))))))))
   have q3 := of_decide_eq_true h68
   try simp [up1] at q3
   refine c_skip (n_then (c_block (r_seq (by kernel_rfl) (s_val (v_mvI rfl) (s_val (v_ixA 1 (by kernel_rfl) rfl rfl (by decide)) (s_store1 (v := .int .i64 _) (by kernel_rfl) rfl rfl (.there .here) (rowA_set _ (by decide)) rfl (s_nil (r_list (by kernel_rfl) (s_val (v_mvI rfl) (s_val (v_addL (c := 4) rfl rfl (by decide) (by decide)) (s_val (v_asI rfl) (s_end (n_bnormal (n_thenR (r_succ (c_seq (d_seq (by kernel_rfl) (by kernel_rfl) (fun w hw => hw.drew) (by kernel_rfl) (q_val (v_mvI rfl) (q_val (v_lsI rfl rfl) ?_)))))))))))))))))))
   refine q_val (v_mvB rfl) (q_pass (g := false) rfl rfl rfl (q_pass (g := false) rfl rfl rfl (q_pass (g := false) rfl rfl rfl (q_pass (g := false) rfl rfl rfl (q_pass (g := false) rfl rfl rfl (q_pass (g := false) rfl rfl rfl (q_pass (g := false) rfl rfl rfl (q_val (v_pickF (v := .bool _) rfl rfl rfl) (q_nil (c_condFh rfl rfl rfl (c_exit (n_exit (n_exit (n_bhere (n_then (c_seq (r_seq (by kernel_rfl) (s_val (v_mvI rfl) (s_val (v_eql (k := .i64) rfl rfl) ?_)))))))))))))))))))
   refine s_nil (c_condTh rfl rfl rfl (r_seq (by kernel_rfl) (s_val (v_loadA (m := 4) (by kernel_rfl) rfl (.there (.there .here)) (rowA_size _)) (s_storeA (m := 4) (by kernel_rfl) rfl rfl (.there (.there (.there .here))) (rowA_size _) (rowA_size _) (rowA_all _) (s_nil (c_ret (n_ret (n_bret (n_ret (n_bret ?_))))))))))
   have hseen : Seen h.core ps s.n s.best := ho.less (more_none h40)
   refine n_doneC (m := 4) rfl (by decide) rfl (by kernel_rfl) (.there (.there (.there .here))) (rowA_size _) (congrArg Value.agg ?_)
   exact (mostM_row (hseen.most (fun b hb => by
         have hb4 : b = 0 ∨ b = 1 ∨ b = 2 ∨ b = 3 := by omega
         rcases hb4 with rfl | rfl | rfl | rfl <;> assumption))).symm
 refine s_want rfl rfl h40 (s_val (v_loadA (m := 42) (by kernel_rfl) rfl (.there (.there (.there (.there .here)))) (H.size _)) (s_want rfl rfl h40 (s_val (v_loadA (m := 4) (by kernel_rfl) rfl (.there .here) (rowA_size _)) (s_want rfl rfl h40 (s_call (by kernel_rfl) (fun w hw => gr_AllTogether h ps s.n w ((hp.mono hmo).at hw) hb hlc) (s_val (v_pickT (v := .bool _) rfl h40 rfl) (s_nil (c_condR rfl rfl (fun h44 => ?_) (fun h44 => ?_)))))))))
 · refine c_skip (n_then (r_seq (by kernel_rfl) (s_val (v_asI rfl) (s_nil (c_seq (c_block (c_rounds 5 (r_succ (c_seq (d_seq (by kernel_rfl) (by kernel_rfl) (fun w hw => hw.drew) (by kernel_rfl) (q_val (v_mvI rfl) (q_val (v_lsI rfl rfl) (q_val (v_mvB rfl) (q_want rfl rfl rfl (q_val (v_mvI rfl) (q_want rfl rfl rfl (q_val (v_ixA 1 (by kernel_rfl) rfl rfl (by decide)) (q_want rfl rfl rfl (q_val (v_ldI (by kernel_rfl) rfl (.there .here) (rowA_at0 _ (by decide))) ?_)))))))))))))))))))
   refine q_want rfl rfl rfl (q_val (v_mvI rfl) (q_want rfl rfl rfl (q_val (v_ixA 1 (by kernel_rfl) rfl rfl (by decide)) (q_want rfl rfl rfl (q_val (v_ldI (by kernel_rfl) rfl .here (rowA_at0 _ (by decide))) (q_want rfl rfl rfl (q_val (v_eql (k := .i64) rfl rfl) (q_val (v_pickT (v := .bool _) rfl rfl rfl) (q_nil (c_condR rfl rfl (fun h68 => ?_) (fun h68 => ?_)))))))))))
   · have q0 := of_decide_eq_false h68
     try simp [up1] at q0
     refine c_exit (n_exit (n_exit (n_bhere (n_then (c_seq (r_seq (by kernel_rfl) (s_val (v_mvI rfl) (s_val (v_eql (k := .i64) rfl rfl) (s_nil (c_condFh rfl rfl rfl (c_skip (n_then ?_))))))))))))
     have hseen : Seen h.core ps s.n s.best := (ho.no ((together_core h ps s.n).trans h44))
     have hsz0 := ho.size 0 (by omega)
     have hq24 : qLen ps 0 ≤ 24 := by have := queueM_len ps 0; unfold qLen; omega
     have hnn : s.n 0 = s.n 0 := by simp [up1]
     have hnext := hseen.next (n2 := (up1 s.n 0 ((s.n) 0 + 1))) ho.size 0 (by omega) (fun b h0 h1 => by
       have hb4 : b = 0 ∨ b = 1 ∨ b = 2 ∨ b = 3 := by omega
       rcases hb4 with rfl | rfl | rfl | rfl <;> first | (exfalso; omega) | exact ⟨by assumption, by simp [up1]⟩) ⟨by assumption, by simp [up1]⟩ (fun b h0 h1 => by
       have hb4 : b = 0 ∨ b = 1 ∨ b = 2 ∨ b = 3 := by omega
       rcases hb4 with rfl | rfl | rfl | rfl <;> first | (exfalso; omega) | simp [up1])
     refine r_list (by kernel_rfl) (s_val (v_mvI rfl) (s_val (v_ixA 1 (by kernel_rfl) rfl rfl (by decide)) (s_val (v_ldI (by kernel_rfl) rfl (.there .here) (rowA_at0 _ (by decide))) (s_val (v_add rfl rfl (by omega)) (s_val (v_ixA 1 (by kernel_rfl) rfl rfl (by decide)) (s_store1 (v := .int .i64 _) (by kernel_rfl) rfl rfl (.there .here) (rowA_set _ (by decide)) rfl (s_end (n_bnormal (n_round (s := s) ⟨s.F, (up1 s.n 0 ((s.n) 0 + 1)), s.best⟩ ⟨_, ⟨hnext.1, hmo⟩, live5 rfl rfl rfl rfl rfl⟩ (fun _ hw => hw) (rank_less hl24 ho.size hnext.2))))))))))
   have q0 := of_decide_eq_true h68
   try simp [up1] at q0
   refine c_skip (n_then (c_block (r_seq (by kernel_rfl) (s_val (v_mvI rfl) (s_val (v_ixA 1 (by kernel_rfl) rfl rfl (by decide)) (s_store1 (v := .int .i64 _) (by kernel_rfl) rfl rfl (.there .here) (rowA_set _ (by decide)) rfl (s_nil (r_list (by kernel_rfl) (s_val (v_mvI rfl) (s_val (v_addL (c := 1) rfl rfl (by decide) (by decide)) (s_val (v_asI rfl) (s_end (n_bnormal (n_thenR (r_succ (c_seq (d_seq (by kernel_rfl) (by kernel_rfl) (fun w hw => hw.drew) (by kernel_rfl) (q_val (v_mvI rfl) (q_val (v_lsI rfl rfl) ?_)))))))))))))))))))
   refine q_val (v_mvB rfl) (q_want rfl rfl rfl (q_val (v_mvI rfl) (q_want rfl rfl rfl (q_val (v_ixA 1 (by kernel_rfl) rfl rfl (by decide)) (q_want rfl rfl rfl (q_val (v_ldI (by kernel_rfl) rfl (.there .here) (rowA_at0 _ (by decide))) (q_want rfl rfl rfl (q_val (v_mvI rfl) (q_want rfl rfl rfl (q_val (v_ixA 1 (by kernel_rfl) rfl rfl (by decide)) (q_want rfl rfl rfl (q_val (v_ldI (by kernel_rfl) rfl .here (rowA_at0 _ (by decide))) (q_want rfl rfl rfl (q_val (v_eql (k := .i64) rfl rfl) (q_val (v_pickT (v := .bool _) rfl rfl rfl) (q_nil (c_condR rfl rfl (fun h68 => ?_) (fun h68 => ?_))))))))))))))))))
   · have q1 := of_decide_eq_false h68
     try simp [up1] at q1
     refine c_exit (n_exit (n_exit (n_bhere (n_then (c_seq (r_seq (by kernel_rfl) (s_val (v_mvI rfl) (s_val (v_eql (k := .i64) rfl rfl) (s_nil (c_condFh rfl rfl rfl (c_skip (n_then ?_))))))))))))
     have hseen : Seen h.core ps s.n s.best := (ho.no ((together_core h ps s.n).trans h44))
     have hsz1 := ho.size 1 (by omega)
     have hq24 : qLen ps 1 ≤ 24 := by have := queueM_len ps 1; unfold qLen; omega
     have hnn : (up1 s.n 0 0) 1 = s.n 1 := by simp [up1]
     have hnext := hseen.next (n2 := (up1 (up1 s.n 0 0) 1 (((up1 s.n 0 0)) 1 + 1))) ho.size 1 (by omega) (fun b h0 h1 => by
       have hb4 : b = 0 ∨ b = 1 ∨ b = 2 ∨ b = 3 := by omega
       rcases hb4 with rfl | rfl | rfl | rfl <;> first | (exfalso; omega) | exact ⟨by assumption, by simp [up1]⟩) ⟨by assumption, by simp [up1]⟩ (fun b h0 h1 => by
       have hb4 : b = 0 ∨ b = 1 ∨ b = 2 ∨ b = 3 := by omega
       rcases hb4 with rfl | rfl | rfl | rfl <;> first | (exfalso; omega) | simp [up1])
     refine r_list (by kernel_rfl) (s_val (v_mvI rfl) (s_val (v_ixA 1 (by kernel_rfl) rfl rfl (by decide)) (s_val (v_ldI (by kernel_rfl) rfl (.there .here) (rowA_at0 _ (by decide))) (s_val (v_add rfl rfl (by omega)) (s_val (v_ixA 1 (by kernel_rfl) rfl rfl (by decide)) (s_store1 (v := .int .i64 _) (by kernel_rfl) rfl rfl (.there .here) (rowA_set _ (by decide)) rfl (s_end (n_bnormal (n_round (s := s) ⟨s.F, (up1 (up1 s.n 0 0) 1 (((up1 s.n 0 0)) 1 + 1)), s.best⟩ ⟨_, ⟨hnext.1, hmo⟩, live5 rfl rfl rfl rfl rfl⟩ (fun _ hw => hw) (rank_less hl24 ho.size hnext.2))))))))))
   have q1 := of_decide_eq_true h68
   try simp [up1] at q1
   refine c_skip (n_then (c_block (r_seq (by kernel_rfl) (s_val (v_mvI rfl) (s_val (v_ixA 1 (by kernel_rfl) rfl rfl (by decide)) (s_store1 (v := .int .i64 _) (by kernel_rfl) rfl rfl (.there .here) (rowA_set _ (by decide)) rfl (s_nil (r_list (by kernel_rfl) (s_val (v_mvI rfl) (s_val (v_addL (c := 2) rfl rfl (by decide) (by decide)) (s_val (v_asI rfl) (s_end (n_bnormal (n_thenR (r_succ (c_seq (d_seq (by kernel_rfl) (by kernel_rfl) (fun w hw => hw.drew) (by kernel_rfl) (q_val (v_mvI rfl) (q_val (v_lsI rfl rfl) ?_)))))))))))))))))))
   refine q_val (v_mvB rfl) (q_want rfl rfl rfl (q_val (v_mvI rfl) (q_want rfl rfl rfl (q_val (v_ixA 1 (by kernel_rfl) rfl rfl (by decide)) (q_want rfl rfl rfl (q_val (v_ldI (by kernel_rfl) rfl (.there .here) (rowA_at0 _ (by decide))) (q_want rfl rfl rfl (q_val (v_mvI rfl) (q_want rfl rfl rfl (q_val (v_ixA 1 (by kernel_rfl) rfl rfl (by decide)) (q_want rfl rfl rfl (q_val (v_ldI (by kernel_rfl) rfl .here (rowA_at0 _ (by decide))) (q_want rfl rfl rfl (q_val (v_eql (k := .i64) rfl rfl) (q_val (v_pickT (v := .bool _) rfl rfl rfl) (q_nil (c_condR rfl rfl (fun h68 => ?_) (fun h68 => ?_))))))))))))))))))
   · have q2 := of_decide_eq_false h68
     try simp [up1] at q2
     refine c_exit (n_exit (n_exit (n_bhere (n_then (c_seq (r_seq (by kernel_rfl) (s_val (v_mvI rfl) (s_val (v_eql (k := .i64) rfl rfl) (s_nil (c_condFh rfl rfl rfl (c_skip (n_then ?_))))))))))))
     have hseen : Seen h.core ps s.n s.best := (ho.no ((together_core h ps s.n).trans h44))
     have hsz2 := ho.size 2 (by omega)
     have hq24 : qLen ps 2 ≤ 24 := by have := queueM_len ps 2; unfold qLen; omega
     have hnn : (up1 (up1 s.n 0 0) 1 0) 2 = s.n 2 := by simp [up1]
     have hnext := hseen.next (n2 := (up1 (up1 (up1 s.n 0 0) 1 0) 2 (((up1 (up1 s.n 0 0) 1 0)) 2 + 1))) ho.size 2 (by omega) (fun b h0 h1 => by
       have hb4 : b = 0 ∨ b = 1 ∨ b = 2 ∨ b = 3 := by omega
       rcases hb4 with rfl | rfl | rfl | rfl <;> first | (exfalso; omega) | exact ⟨by assumption, by simp [up1]⟩) ⟨by assumption, by simp [up1]⟩ (fun b h0 h1 => by
       have hb4 : b = 0 ∨ b = 1 ∨ b = 2 ∨ b = 3 := by omega
       rcases hb4 with rfl | rfl | rfl | rfl <;> first | (exfalso; omega) | simp [up1])
     refine r_list (by kernel_rfl) (s_val (v_mvI rfl) (s_val (v_ixA 1 (by kernel_rfl) rfl rfl (by decide)) (s_val (v_ldI (by kernel_rfl) rfl (.there .here) (rowA_at0 _ (by decide))) (s_val (v_add rfl rfl (by omega)) (s_val (v_ixA 1 (by kernel_rfl) rfl rfl (by decide)) (s_store1 (v := .int .i64 _) (by kernel_rfl) rfl rfl (.there .here) (rowA_set _ (by decide)) rfl (s_end (n_bnormal (n_round (s := s) ⟨s.F, (up1 (up1 (up1 s.n 0 0) 1 0) 2 (((up1 (up1 s.n 0 0) 1 0)) 2 + 1)), s.best⟩ ⟨_, ⟨hnext.1, hmo⟩, live5 rfl rfl rfl rfl rfl⟩ (fun _ hw => hw) (rank_less hl24 ho.size hnext.2))))))))))
   have q2 := of_decide_eq_true h68
   try simp [up1] at q2
   refine c_skip (n_then (c_block (r_seq (by kernel_rfl) (s_val (v_mvI rfl) (s_val (v_ixA 1 (by kernel_rfl) rfl rfl (by decide)) (s_store1 (v := .int .i64 _) (by kernel_rfl) rfl rfl (.there .here) (rowA_set _ (by decide)) rfl (s_nil (r_list (by kernel_rfl) (s_val (v_mvI rfl) (s_val (v_addL (c := 3) rfl rfl (by decide) (by decide)) (s_val (v_asI rfl) (s_end (n_bnormal (n_thenR (r_succ (c_seq (d_seq (by kernel_rfl) (by kernel_rfl) (fun w hw => hw.drew) (by kernel_rfl) (q_val (v_mvI rfl) (q_val (v_lsI rfl rfl) ?_)))))))))))))))))))
   refine q_val (v_mvB rfl) (q_want rfl rfl rfl (q_val (v_mvI rfl) (q_want rfl rfl rfl (q_val (v_ixA 1 (by kernel_rfl) rfl rfl (by decide)) (q_want rfl rfl rfl (q_val (v_ldI (by kernel_rfl) rfl (.there .here) (rowA_at0 _ (by decide))) (q_want rfl rfl rfl (q_val (v_mvI rfl) (q_want rfl rfl rfl (q_val (v_ixA 1 (by kernel_rfl) rfl rfl (by decide)) (q_want rfl rfl rfl (q_val (v_ldI (by kernel_rfl) rfl .here (rowA_at0 _ (by decide))) (q_want rfl rfl rfl (q_val (v_eql (k := .i64) rfl rfl) (q_val (v_pickT (v := .bool _) rfl rfl rfl) (q_nil (c_condR rfl rfl (fun h68 => ?_) (fun h68 => ?_))))))))))))))))))
   · have q3 := of_decide_eq_false h68
     try simp [up1] at q3
     refine c_exit (n_exit (n_exit (n_bhere (n_then (c_seq (r_seq (by kernel_rfl) (s_val (v_mvI rfl) (s_val (v_eql (k := .i64) rfl rfl) (s_nil (c_condFh rfl rfl rfl (c_skip (n_then ?_))))))))))))
     have hseen : Seen h.core ps s.n s.best := (ho.no ((together_core h ps s.n).trans h44))
     have hsz3 := ho.size 3 (by omega)
     have hq24 : qLen ps 3 ≤ 24 := by have := queueM_len ps 3; unfold qLen; omega
     have hnn : (up1 (up1 (up1 s.n 0 0) 1 0) 2 0) 3 = s.n 3 := by simp [up1]
     have hnext := hseen.next (n2 := (up1 (up1 (up1 (up1 s.n 0 0) 1 0) 2 0) 3 (((up1 (up1 (up1 s.n 0 0) 1 0) 2 0)) 3 + 1))) ho.size 3 (by omega) (fun b h0 h1 => by
       have hb4 : b = 0 ∨ b = 1 ∨ b = 2 ∨ b = 3 := by omega
       rcases hb4 with rfl | rfl | rfl | rfl <;> first | (exfalso; omega) | exact ⟨by assumption, by simp [up1]⟩) ⟨by assumption, by simp [up1]⟩ (fun b h0 h1 => by
       have hb4 : b = 0 ∨ b = 1 ∨ b = 2 ∨ b = 3 := by omega
       rcases hb4 with rfl | rfl | rfl | rfl <;> first | (exfalso; omega) | simp [up1])
     refine r_list (by kernel_rfl) (s_val (v_mvI rfl) (s_val (v_ixA 1 (by kernel_rfl) rfl rfl (by decide)) (s_val (v_ldI (by kernel_rfl) rfl (.there .here) (rowA_at0 _ (by decide))) (s_val (v_add rfl rfl (by omega)) (s_val (v_ixA 1 (by kernel_rfl) rfl rfl (by decide)) (s_store1 (v := .int .i64 _) (by kernel_rfl) rfl rfl (.there .here) (rowA_set _ (by decide)) rfl (s_end (n_bnormal (n_round (s := s) ⟨s.F, (up1 (up1 (up1 (up1 s.n 0 0) 1 0) 2 0) 3 (((up1 (up1 (up1 s.n 0 0) 1 0) 2 0)) 3 + 1)), s.best⟩ ⟨_, ⟨hnext.1, hmo⟩, live5 rfl rfl rfl rfl rfl⟩ (fun _ hw => hw) (rank_less hl24 ho.size hnext.2))))))))))
   have q3 := of_decide_eq_true h68
   try simp [up1] at q3
   refine c_skip (n_then (c_block (r_seq (by kernel_rfl) (s_val (v_mvI rfl) (s_val (v_ixA 1 (by kernel_rfl) rfl rfl (by decide)) (s_store1 (v := .int .i64 _) (by kernel_rfl) rfl rfl (.there .here) (rowA_set _ (by decide)) rfl (s_nil (r_list (by kernel_rfl) (s_val (v_mvI rfl) (s_val (v_addL (c := 4) rfl rfl (by decide) (by decide)) (s_val (v_asI rfl) (s_end (n_bnormal (n_thenR (r_succ (c_seq (d_seq (by kernel_rfl) (by kernel_rfl) (fun w hw => hw.drew) (by kernel_rfl) (q_val (v_mvI rfl) (q_val (v_lsI rfl rfl) ?_)))))))))))))))))))
   refine q_val (v_mvB rfl) (q_pass (g := false) rfl rfl rfl (q_pass (g := false) rfl rfl rfl (q_pass (g := false) rfl rfl rfl (q_pass (g := false) rfl rfl rfl (q_pass (g := false) rfl rfl rfl (q_pass (g := false) rfl rfl rfl (q_pass (g := false) rfl rfl rfl (q_val (v_pickF (v := .bool _) rfl rfl rfl) (q_nil (c_condFh rfl rfl rfl (c_exit (n_exit (n_exit (n_bhere (n_then (c_seq (r_seq (by kernel_rfl) (s_val (v_mvI rfl) (s_val (v_eql (k := .i64) rfl rfl) ?_)))))))))))))))))))
   refine s_nil (c_condTh rfl rfl rfl (r_seq (by kernel_rfl) (s_val (v_loadA (m := 4) (by kernel_rfl) rfl (.there (.there .here)) (rowA_size _)) (s_storeA (m := 4) (by kernel_rfl) rfl rfl (.there (.there (.there .here))) (rowA_size _) (rowA_size _) (rowA_all _) (s_nil (c_ret (n_ret (n_bret (n_ret (n_bret ?_))))))))))
   have hseen : Seen h.core ps s.n s.best := (ho.no ((together_core h ps s.n).trans h44))
   refine n_doneC (m := 4) rfl (by decide) rfl (by kernel_rfl) (.there (.there (.there .here))) (rowA_size _) (congrArg Value.agg ?_)
   exact (mostM_row (hseen.most (fun b hb => by
         have hb4 : b = 0 ∨ b = 1 ∨ b = 2 ∨ b = 3 := by omega
         rcases hb4 with rfl | rfl | rfl | rfl <;> assumption))).symm
 refine r_seq (by kernel_rfl) (s_val (v_mvI rfl) (s_nil (c_block (c_rounds 5 (r_succ (r_seq (by kernel_rfl) (s_val (v_lsI rfl rfl) (s_nil (c_seq (c_condTh rfl rfl rfl (c_skip (n_then (c_seq (c_block (r_seq (by kernel_rfl) (s_val (v_mvI rfl) (s_val (v_asI rfl) (s_nil (t_list (k := 9) (by kernel_rfl) (by kernel_rfl) (fun w hw => hw.drew) (by kernel_rfl) ?_)))))))))))))))))))
 refine q_val (v_mvI rfl) (q_val (v_mvI rfl) (q_val (v_ixA 1 (by kernel_rfl) rfl rfl (by decide)) (q_val (v_ldI (by kernel_rfl) rfl (.there (.there .here)) (rowA_at0 _ (by decide))) (q_val (v_mvI rfl) (q_val (v_ixA 1 (by kernel_rfl) rfl rfl (by decide)) (q_val (v_ldI (by kernel_rfl) rfl (.there .here) (rowA_at0 _ (by decide))) (q_val (v_max rfl rfl) (q_val (v_ixA 1 (by kernel_rfl) rfl rfl (by decide)) (q_tail (s_store1 (v := .int .i64 _) (by kernel_rfl) rfl rfl (.there (.there .here)) (rowA_set _ (by decide)) rfl (s_end (n_bnormal (n_then (r_list (by kernel_rfl) (s_val (v_addL (c := 1) rfl rfl (by decide) (by decide)) (s_val (v_mvI rfl) (s_end (n_thenR (r_succ ?_)))))))))))))))))))
 refine r_seq (by kernel_rfl) (s_val (v_lsI rfl rfl) (s_nil (c_seq (c_condTh rfl rfl rfl (c_skip (n_then (c_seq (c_block (r_seq (by kernel_rfl) (s_val (v_mvI rfl) (s_val (v_asI rfl) (s_nil (t_list (k := 9) (by kernel_rfl) (by kernel_rfl) (fun w hw => hw.drew) (by kernel_rfl) (q_val (v_mvI rfl) (q_val (v_mvI rfl) (q_val (v_ixA 1 (by kernel_rfl) rfl rfl (by decide)) (q_val (v_ldI (by kernel_rfl) rfl (.there (.there .here)) (rowA_at0 _ (by decide))) (q_val (v_mvI rfl) (q_val (v_ixA 1 (by kernel_rfl) rfl rfl (by decide)) ?_)))))))))))))))))))
 refine q_val (v_ldI (by kernel_rfl) rfl (.there .here) (rowA_at0 _ (by decide))) (q_val (v_max rfl rfl) (q_val (v_ixA 1 (by kernel_rfl) rfl rfl (by decide)) (q_tail (s_store1 (v := .int .i64 _) (by kernel_rfl) rfl rfl (.there (.there .here)) (rowA_set _ (by decide)) rfl (s_end (n_bnormal (n_then (r_list (by kernel_rfl) (s_val (v_addL (c := 2) rfl rfl (by decide) (by decide)) (s_val (v_mvI rfl) (s_end (n_thenR (r_succ (r_seq (by kernel_rfl) (s_val (v_lsI rfl rfl) (s_nil (c_seq (c_condTh rfl rfl rfl (c_skip ?_)))))))))))))))))))
 refine n_then (c_seq (c_block (r_seq (by kernel_rfl) (s_val (v_mvI rfl) (s_val (v_asI rfl) (s_nil (t_list (k := 9) (by kernel_rfl) (by kernel_rfl) (fun w hw => hw.drew) (by kernel_rfl) (q_val (v_mvI rfl) (q_val (v_mvI rfl) (q_val (v_ixA 1 (by kernel_rfl) rfl rfl (by decide)) (q_val (v_ldI (by kernel_rfl) rfl (.there (.there .here)) (rowA_at0 _ (by decide))) (q_val (v_mvI rfl) (q_val (v_ixA 1 (by kernel_rfl) rfl rfl (by decide)) (q_val (v_ldI (by kernel_rfl) rfl (.there .here) (rowA_at0 _ (by decide))) (q_val (v_max rfl rfl) (q_val (v_ixA 1 (by kernel_rfl) rfl rfl (by decide)) (q_tail (s_store1 (v := .int .i64 _) (by kernel_rfl) rfl rfl (.there (.there .here)) (rowA_set _ (by decide)) rfl (s_end ?_)))))))))))))))))))
 refine n_bnormal (n_then (r_list (by kernel_rfl) (s_val (v_addL (c := 3) rfl rfl (by decide) (by decide)) (s_val (v_mvI rfl) (s_end (n_thenR (r_succ (r_seq (by kernel_rfl) (s_val (v_lsI rfl rfl) (s_nil (c_seq (c_condTh rfl rfl rfl (c_skip (n_then (c_seq (c_block (r_seq (by kernel_rfl) (s_val (v_mvI rfl) (s_val (v_asI rfl) ?_)))))))))))))))))))
 refine s_nil (t_list (k := 9) (by kernel_rfl) (by kernel_rfl) (fun w hw => hw.drew) (by kernel_rfl) (q_val (v_mvI rfl) (q_val (v_mvI rfl) (q_val (v_ixA 1 (by kernel_rfl) rfl rfl (by decide)) (q_val (v_ldI (by kernel_rfl) rfl (.there (.there .here)) (rowA_at0 _ (by decide))) (q_val (v_mvI rfl) (q_val (v_ixA 1 (by kernel_rfl) rfl rfl (by decide)) (q_val (v_ldI (by kernel_rfl) rfl (.there .here) (rowA_at0 _ (by decide))) (q_val (v_max rfl rfl) (q_val (v_ixA 1 (by kernel_rfl) rfl rfl (by decide)) (q_tail (s_store1 (v := .int .i64 _) (by kernel_rfl) rfl rfl (.there (.there .here)) (rowA_set _ (by decide)) rfl (s_end (n_bnormal (n_then (r_list (by kernel_rfl) (s_val (v_addL (c := 4) rfl rfl (by decide) (by decide)) (s_val (v_mvI rfl) (s_end ?_)))))))))))))))))))
 refine n_thenR (r_succ (r_seq (by kernel_rfl) (s_val (v_lsI rfl rfl) (s_nil (c_seq (c_condFh rfl rfl rfl (c_exit (n_exit (n_exit (n_bhere (n_then (r_seq (by kernel_rfl) (s_val (v_asI rfl) (s_nil (c_seq (c_block (c_rounds 5 (r_succ (c_seq ?_)))))))))))))))))))
 refine d_seq (by kernel_rfl) (by kernel_rfl) (fun w hw => hw.drew) (by kernel_rfl) (q_val (v_mvI rfl) (q_val (v_lsI rfl rfl) (q_val (v_mvB rfl) (q_want rfl rfl rfl (q_val (v_mvI rfl) (q_want rfl rfl rfl (q_val (v_ixA 1 (by kernel_rfl) rfl rfl (by decide)) (q_want rfl rfl rfl (q_val (v_ldI (by kernel_rfl) rfl (.there .here) (rowA_at0 _ (by decide))) (q_want rfl rfl rfl (q_val (v_mvI rfl) (q_want rfl rfl rfl (q_val (v_ixA 1 (by kernel_rfl) rfl rfl (by decide)) (q_want rfl rfl rfl (q_val (v_ldI (by kernel_rfl) rfl .here (rowA_at0 _ (by decide))) (q_want rfl rfl rfl (q_val (v_eql (k := .i64) rfl rfl) (q_val (v_pickT (v := .bool _) rfl rfl rfl) (q_nil ?_)))))))))))))))))))
 refine c_condR rfl rfl (fun h68 => ?_) (fun h68 => ?_)
 · have q0 := of_decide_eq_false h68
   try simp [up1] at q0
   refine c_exit (n_exit (n_exit (n_bhere (n_then (c_seq (r_seq (by kernel_rfl) (s_val (v_mvI rfl) (s_val (v_eql (k := .i64) rfl rfl) (s_nil (c_condFh rfl rfl rfl (c_skip (n_then ?_))))))))))))
   have hseen : Seen h.core ps s.n (up1 (up1 (up1 (up1 s.best 0 (maxI (s.best 0) (s.n 0))) 1 (maxI ((up1 s.best 0 (maxI (s.best 0) (s.n 0))) 1) (s.n 1))) 2 (maxI ((up1 (up1 s.best 0 (maxI (s.best 0) (s.n 0))) 1 (maxI ((up1 s.best 0 (maxI (s.best 0) (s.n 0))) 1) (s.n 1))) 2) (s.n 2))) 3 (maxI ((up1 (up1 (up1 s.best 0 (maxI (s.best 0) (s.n 0))) 1 (maxI ((up1 s.best 0 (maxI (s.best 0) (s.n 0))) 1) (s.n 1))) 2 (maxI ((up1 (up1 s.best 0 (maxI (s.best 0) (s.n 0))) 1 (maxI ((up1 s.best 0 (maxI (s.best 0) (s.n 0))) 1) (s.n 1))) 2) (s.n 2))) 3) (s.n 3))) := (ho.yes ((together_core h ps s.n).trans h44) (fun b hb => by
         have hb4 : b = 0 ∨ b = 1 ∨ b = 2 ∨ b = 3 := by omega
         rcases hb4 with rfl | rfl | rfl | rfl <;> simp [up1, joinM, maxI]))
   have hsz0 := ho.size 0 (by omega)
   have hq24 : qLen ps 0 ≤ 24 := by have := queueM_len ps 0; unfold qLen; omega
   have hnn : s.n 0 = s.n 0 := by simp [up1]
   have hnext := hseen.next (n2 := (up1 s.n 0 ((s.n) 0 + 1))) ho.size 0 (by omega) (fun b h0 h1 => by
     have hb4 : b = 0 ∨ b = 1 ∨ b = 2 ∨ b = 3 := by omega
     rcases hb4 with rfl | rfl | rfl | rfl <;> first | (exfalso; omega) | exact ⟨by assumption, by simp [up1]⟩) ⟨by assumption, by simp [up1]⟩ (fun b h0 h1 => by
     have hb4 : b = 0 ∨ b = 1 ∨ b = 2 ∨ b = 3 := by omega
     rcases hb4 with rfl | rfl | rfl | rfl <;> first | (exfalso; omega) | simp [up1])
   refine r_list (by kernel_rfl) (s_val (v_mvI rfl) (s_val (v_ixA 1 (by kernel_rfl) rfl rfl (by decide)) (s_val (v_ldI (by kernel_rfl) rfl (.there .here) (rowA_at0 _ (by decide))) (s_val (v_add rfl rfl (by omega)) (s_val (v_ixA 1 (by kernel_rfl) rfl rfl (by decide)) (s_store1 (v := .int .i64 _) (by kernel_rfl) rfl rfl (.there .here) (rowA_set _ (by decide)) rfl (s_end (n_bnormal (n_round (s := s) ⟨s.F, (up1 s.n 0 ((s.n) 0 + 1)), (up1 (up1 (up1 (up1 s.best 0 (maxI (s.best 0) (s.n 0))) 1 (maxI ((up1 s.best 0 (maxI (s.best 0) (s.n 0))) 1) (s.n 1))) 2 (maxI ((up1 (up1 s.best 0 (maxI (s.best 0) (s.n 0))) 1 (maxI ((up1 s.best 0 (maxI (s.best 0) (s.n 0))) 1) (s.n 1))) 2) (s.n 2))) 3 (maxI ((up1 (up1 (up1 s.best 0 (maxI (s.best 0) (s.n 0))) 1 (maxI ((up1 s.best 0 (maxI (s.best 0) (s.n 0))) 1) (s.n 1))) 2 (maxI ((up1 (up1 s.best 0 (maxI (s.best 0) (s.n 0))) 1 (maxI ((up1 s.best 0 (maxI (s.best 0) (s.n 0))) 1) (s.n 1))) 2) (s.n 2))) 3) (s.n 3)))⟩ ⟨_, ⟨hnext.1, hmo⟩, live5 rfl rfl rfl rfl rfl⟩ (fun _ hw => hw) (rank_less hl24 ho.size hnext.2))))))))))
 have q0 := of_decide_eq_true h68
 try simp [up1] at q0
 refine c_skip (n_then (c_block (r_seq (by kernel_rfl) (s_val (v_mvI rfl) (s_val (v_ixA 1 (by kernel_rfl) rfl rfl (by decide)) (s_store1 (v := .int .i64 _) (by kernel_rfl) rfl rfl (.there .here) (rowA_set _ (by decide)) rfl (s_nil (r_list (by kernel_rfl) (s_val (v_mvI rfl) (s_val (v_addL (c := 1) rfl rfl (by decide) (by decide)) (s_val (v_asI rfl) (s_end (n_bnormal (n_thenR (r_succ (c_seq (d_seq (by kernel_rfl) (by kernel_rfl) (fun w hw => hw.drew) (by kernel_rfl) (q_val (v_mvI rfl) (q_val (v_lsI rfl rfl) ?_)))))))))))))))))))
 refine q_val (v_mvB rfl) (q_want rfl rfl rfl (q_val (v_mvI rfl) (q_want rfl rfl rfl (q_val (v_ixA 1 (by kernel_rfl) rfl rfl (by decide)) (q_want rfl rfl rfl (q_val (v_ldI (by kernel_rfl) rfl (.there .here) (rowA_at0 _ (by decide))) (q_want rfl rfl rfl (q_val (v_mvI rfl) (q_want rfl rfl rfl (q_val (v_ixA 1 (by kernel_rfl) rfl rfl (by decide)) (q_want rfl rfl rfl (q_val (v_ldI (by kernel_rfl) rfl .here (rowA_at0 _ (by decide))) (q_want rfl rfl rfl (q_val (v_eql (k := .i64) rfl rfl) (q_val (v_pickT (v := .bool _) rfl rfl rfl) (q_nil (c_condR rfl rfl (fun h68 => ?_) (fun h68 => ?_))))))))))))))))))
 · have q1 := of_decide_eq_false h68
   try simp [up1] at q1
   refine c_exit (n_exit (n_exit (n_bhere (n_then (c_seq (r_seq (by kernel_rfl) (s_val (v_mvI rfl) (s_val (v_eql (k := .i64) rfl rfl) (s_nil (c_condFh rfl rfl rfl (c_skip (n_then ?_))))))))))))
   have hseen : Seen h.core ps s.n (up1 (up1 (up1 (up1 s.best 0 (maxI (s.best 0) (s.n 0))) 1 (maxI ((up1 s.best 0 (maxI (s.best 0) (s.n 0))) 1) (s.n 1))) 2 (maxI ((up1 (up1 s.best 0 (maxI (s.best 0) (s.n 0))) 1 (maxI ((up1 s.best 0 (maxI (s.best 0) (s.n 0))) 1) (s.n 1))) 2) (s.n 2))) 3 (maxI ((up1 (up1 (up1 s.best 0 (maxI (s.best 0) (s.n 0))) 1 (maxI ((up1 s.best 0 (maxI (s.best 0) (s.n 0))) 1) (s.n 1))) 2 (maxI ((up1 (up1 s.best 0 (maxI (s.best 0) (s.n 0))) 1 (maxI ((up1 s.best 0 (maxI (s.best 0) (s.n 0))) 1) (s.n 1))) 2) (s.n 2))) 3) (s.n 3))) := (ho.yes ((together_core h ps s.n).trans h44) (fun b hb => by
         have hb4 : b = 0 ∨ b = 1 ∨ b = 2 ∨ b = 3 := by omega
         rcases hb4 with rfl | rfl | rfl | rfl <;> simp [up1, joinM, maxI]))
   have hsz1 := ho.size 1 (by omega)
   have hq24 : qLen ps 1 ≤ 24 := by have := queueM_len ps 1; unfold qLen; omega
   have hnn : (up1 s.n 0 0) 1 = s.n 1 := by simp [up1]
   have hnext := hseen.next (n2 := (up1 (up1 s.n 0 0) 1 (((up1 s.n 0 0)) 1 + 1))) ho.size 1 (by omega) (fun b h0 h1 => by
     have hb4 : b = 0 ∨ b = 1 ∨ b = 2 ∨ b = 3 := by omega
     rcases hb4 with rfl | rfl | rfl | rfl <;> first | (exfalso; omega) | exact ⟨by assumption, by simp [up1]⟩) ⟨by assumption, by simp [up1]⟩ (fun b h0 h1 => by
     have hb4 : b = 0 ∨ b = 1 ∨ b = 2 ∨ b = 3 := by omega
     rcases hb4 with rfl | rfl | rfl | rfl <;> first | (exfalso; omega) | simp [up1])
   refine r_list (by kernel_rfl) (s_val (v_mvI rfl) (s_val (v_ixA 1 (by kernel_rfl) rfl rfl (by decide)) (s_val (v_ldI (by kernel_rfl) rfl (.there .here) (rowA_at0 _ (by decide))) (s_val (v_add rfl rfl (by omega)) (s_val (v_ixA 1 (by kernel_rfl) rfl rfl (by decide)) (s_store1 (v := .int .i64 _) (by kernel_rfl) rfl rfl (.there .here) (rowA_set _ (by decide)) rfl (s_end (n_bnormal (n_round (s := s) ⟨s.F, (up1 (up1 s.n 0 0) 1 (((up1 s.n 0 0)) 1 + 1)), (up1 (up1 (up1 (up1 s.best 0 (maxI (s.best 0) (s.n 0))) 1 (maxI ((up1 s.best 0 (maxI (s.best 0) (s.n 0))) 1) (s.n 1))) 2 (maxI ((up1 (up1 s.best 0 (maxI (s.best 0) (s.n 0))) 1 (maxI ((up1 s.best 0 (maxI (s.best 0) (s.n 0))) 1) (s.n 1))) 2) (s.n 2))) 3 (maxI ((up1 (up1 (up1 s.best 0 (maxI (s.best 0) (s.n 0))) 1 (maxI ((up1 s.best 0 (maxI (s.best 0) (s.n 0))) 1) (s.n 1))) 2 (maxI ((up1 (up1 s.best 0 (maxI (s.best 0) (s.n 0))) 1 (maxI ((up1 s.best 0 (maxI (s.best 0) (s.n 0))) 1) (s.n 1))) 2) (s.n 2))) 3) (s.n 3)))⟩ ⟨_, ⟨hnext.1, hmo⟩, live5 rfl rfl rfl rfl rfl⟩ (fun _ hw => hw) (rank_less hl24 ho.size hnext.2))))))))))
 have q1 := of_decide_eq_true h68
 try simp [up1] at q1
 refine c_skip (n_then (c_block (r_seq (by kernel_rfl) (s_val (v_mvI rfl) (s_val (v_ixA 1 (by kernel_rfl) rfl rfl (by decide)) (s_store1 (v := .int .i64 _) (by kernel_rfl) rfl rfl (.there .here) (rowA_set _ (by decide)) rfl (s_nil (r_list (by kernel_rfl) (s_val (v_mvI rfl) (s_val (v_addL (c := 2) rfl rfl (by decide) (by decide)) (s_val (v_asI rfl) (s_end (n_bnormal (n_thenR (r_succ (c_seq (d_seq (by kernel_rfl) (by kernel_rfl) (fun w hw => hw.drew) (by kernel_rfl) (q_val (v_mvI rfl) (q_val (v_lsI rfl rfl) ?_)))))))))))))))))))
 refine q_val (v_mvB rfl) (q_want rfl rfl rfl (q_val (v_mvI rfl) (q_want rfl rfl rfl (q_val (v_ixA 1 (by kernel_rfl) rfl rfl (by decide)) (q_want rfl rfl rfl (q_val (v_ldI (by kernel_rfl) rfl (.there .here) (rowA_at0 _ (by decide))) (q_want rfl rfl rfl (q_val (v_mvI rfl) (q_want rfl rfl rfl (q_val (v_ixA 1 (by kernel_rfl) rfl rfl (by decide)) (q_want rfl rfl rfl (q_val (v_ldI (by kernel_rfl) rfl .here (rowA_at0 _ (by decide))) (q_want rfl rfl rfl (q_val (v_eql (k := .i64) rfl rfl) (q_val (v_pickT (v := .bool _) rfl rfl rfl) (q_nil (c_condR rfl rfl (fun h68 => ?_) (fun h68 => ?_))))))))))))))))))
 · have q2 := of_decide_eq_false h68
   try simp [up1] at q2
   refine c_exit (n_exit (n_exit (n_bhere (n_then (c_seq (r_seq (by kernel_rfl) (s_val (v_mvI rfl) (s_val (v_eql (k := .i64) rfl rfl) (s_nil (c_condFh rfl rfl rfl (c_skip (n_then ?_))))))))))))
   have hseen : Seen h.core ps s.n (up1 (up1 (up1 (up1 s.best 0 (maxI (s.best 0) (s.n 0))) 1 (maxI ((up1 s.best 0 (maxI (s.best 0) (s.n 0))) 1) (s.n 1))) 2 (maxI ((up1 (up1 s.best 0 (maxI (s.best 0) (s.n 0))) 1 (maxI ((up1 s.best 0 (maxI (s.best 0) (s.n 0))) 1) (s.n 1))) 2) (s.n 2))) 3 (maxI ((up1 (up1 (up1 s.best 0 (maxI (s.best 0) (s.n 0))) 1 (maxI ((up1 s.best 0 (maxI (s.best 0) (s.n 0))) 1) (s.n 1))) 2 (maxI ((up1 (up1 s.best 0 (maxI (s.best 0) (s.n 0))) 1 (maxI ((up1 s.best 0 (maxI (s.best 0) (s.n 0))) 1) (s.n 1))) 2) (s.n 2))) 3) (s.n 3))) := (ho.yes ((together_core h ps s.n).trans h44) (fun b hb => by
         have hb4 : b = 0 ∨ b = 1 ∨ b = 2 ∨ b = 3 := by omega
         rcases hb4 with rfl | rfl | rfl | rfl <;> simp [up1, joinM, maxI]))
   have hsz2 := ho.size 2 (by omega)
   have hq24 : qLen ps 2 ≤ 24 := by have := queueM_len ps 2; unfold qLen; omega
   have hnn : (up1 (up1 s.n 0 0) 1 0) 2 = s.n 2 := by simp [up1]
   have hnext := hseen.next (n2 := (up1 (up1 (up1 s.n 0 0) 1 0) 2 (((up1 (up1 s.n 0 0) 1 0)) 2 + 1))) ho.size 2 (by omega) (fun b h0 h1 => by
     have hb4 : b = 0 ∨ b = 1 ∨ b = 2 ∨ b = 3 := by omega
     rcases hb4 with rfl | rfl | rfl | rfl <;> first | (exfalso; omega) | exact ⟨by assumption, by simp [up1]⟩) ⟨by assumption, by simp [up1]⟩ (fun b h0 h1 => by
     have hb4 : b = 0 ∨ b = 1 ∨ b = 2 ∨ b = 3 := by omega
     rcases hb4 with rfl | rfl | rfl | rfl <;> first | (exfalso; omega) | simp [up1])
   refine r_list (by kernel_rfl) (s_val (v_mvI rfl) (s_val (v_ixA 1 (by kernel_rfl) rfl rfl (by decide)) (s_val (v_ldI (by kernel_rfl) rfl (.there .here) (rowA_at0 _ (by decide))) (s_val (v_add rfl rfl (by omega)) (s_val (v_ixA 1 (by kernel_rfl) rfl rfl (by decide)) (s_store1 (v := .int .i64 _) (by kernel_rfl) rfl rfl (.there .here) (rowA_set _ (by decide)) rfl (s_end (n_bnormal (n_round (s := s) ⟨s.F, (up1 (up1 (up1 s.n 0 0) 1 0) 2 (((up1 (up1 s.n 0 0) 1 0)) 2 + 1)), (up1 (up1 (up1 (up1 s.best 0 (maxI (s.best 0) (s.n 0))) 1 (maxI ((up1 s.best 0 (maxI (s.best 0) (s.n 0))) 1) (s.n 1))) 2 (maxI ((up1 (up1 s.best 0 (maxI (s.best 0) (s.n 0))) 1 (maxI ((up1 s.best 0 (maxI (s.best 0) (s.n 0))) 1) (s.n 1))) 2) (s.n 2))) 3 (maxI ((up1 (up1 (up1 s.best 0 (maxI (s.best 0) (s.n 0))) 1 (maxI ((up1 s.best 0 (maxI (s.best 0) (s.n 0))) 1) (s.n 1))) 2 (maxI ((up1 (up1 s.best 0 (maxI (s.best 0) (s.n 0))) 1 (maxI ((up1 s.best 0 (maxI (s.best 0) (s.n 0))) 1) (s.n 1))) 2) (s.n 2))) 3) (s.n 3)))⟩ ⟨_, ⟨hnext.1, hmo⟩, live5 rfl rfl rfl rfl rfl⟩ (fun _ hw => hw) (rank_less hl24 ho.size hnext.2))))))))))
 have q2 := of_decide_eq_true h68
 try simp [up1] at q2
 refine c_skip (n_then (c_block (r_seq (by kernel_rfl) (s_val (v_mvI rfl) (s_val (v_ixA 1 (by kernel_rfl) rfl rfl (by decide)) (s_store1 (v := .int .i64 _) (by kernel_rfl) rfl rfl (.there .here) (rowA_set _ (by decide)) rfl (s_nil (r_list (by kernel_rfl) (s_val (v_mvI rfl) (s_val (v_addL (c := 3) rfl rfl (by decide) (by decide)) (s_val (v_asI rfl) (s_end (n_bnormal (n_thenR (r_succ (c_seq (d_seq (by kernel_rfl) (by kernel_rfl) (fun w hw => hw.drew) (by kernel_rfl) (q_val (v_mvI rfl) (q_val (v_lsI rfl rfl) ?_)))))))))))))))))))
 refine q_val (v_mvB rfl) (q_want rfl rfl rfl (q_val (v_mvI rfl) (q_want rfl rfl rfl (q_val (v_ixA 1 (by kernel_rfl) rfl rfl (by decide)) (q_want rfl rfl rfl (q_val (v_ldI (by kernel_rfl) rfl (.there .here) (rowA_at0 _ (by decide))) (q_want rfl rfl rfl (q_val (v_mvI rfl) (q_want rfl rfl rfl (q_val (v_ixA 1 (by kernel_rfl) rfl rfl (by decide)) (q_want rfl rfl rfl (q_val (v_ldI (by kernel_rfl) rfl .here (rowA_at0 _ (by decide))) (q_want rfl rfl rfl (q_val (v_eql (k := .i64) rfl rfl) (q_val (v_pickT (v := .bool _) rfl rfl rfl) (q_nil (c_condR rfl rfl (fun h68 => ?_) (fun h68 => ?_))))))))))))))))))
 · have q3 := of_decide_eq_false h68
   try simp [up1] at q3
   refine c_exit (n_exit (n_exit (n_bhere (n_then (c_seq (r_seq (by kernel_rfl) (s_val (v_mvI rfl) (s_val (v_eql (k := .i64) rfl rfl) (s_nil (c_condFh rfl rfl rfl (c_skip (n_then ?_))))))))))))
   have hseen : Seen h.core ps s.n (up1 (up1 (up1 (up1 s.best 0 (maxI (s.best 0) (s.n 0))) 1 (maxI ((up1 s.best 0 (maxI (s.best 0) (s.n 0))) 1) (s.n 1))) 2 (maxI ((up1 (up1 s.best 0 (maxI (s.best 0) (s.n 0))) 1 (maxI ((up1 s.best 0 (maxI (s.best 0) (s.n 0))) 1) (s.n 1))) 2) (s.n 2))) 3 (maxI ((up1 (up1 (up1 s.best 0 (maxI (s.best 0) (s.n 0))) 1 (maxI ((up1 s.best 0 (maxI (s.best 0) (s.n 0))) 1) (s.n 1))) 2 (maxI ((up1 (up1 s.best 0 (maxI (s.best 0) (s.n 0))) 1 (maxI ((up1 s.best 0 (maxI (s.best 0) (s.n 0))) 1) (s.n 1))) 2) (s.n 2))) 3) (s.n 3))) := (ho.yes ((together_core h ps s.n).trans h44) (fun b hb => by
         have hb4 : b = 0 ∨ b = 1 ∨ b = 2 ∨ b = 3 := by omega
         rcases hb4 with rfl | rfl | rfl | rfl <;> simp [up1, joinM, maxI]))
   have hsz3 := ho.size 3 (by omega)
   have hq24 : qLen ps 3 ≤ 24 := by have := queueM_len ps 3; unfold qLen; omega
   have hnn : (up1 (up1 (up1 s.n 0 0) 1 0) 2 0) 3 = s.n 3 := by simp [up1]
   have hnext := hseen.next (n2 := (up1 (up1 (up1 (up1 s.n 0 0) 1 0) 2 0) 3 (((up1 (up1 (up1 s.n 0 0) 1 0) 2 0)) 3 + 1))) ho.size 3 (by omega) (fun b h0 h1 => by
     have hb4 : b = 0 ∨ b = 1 ∨ b = 2 ∨ b = 3 := by omega
     rcases hb4 with rfl | rfl | rfl | rfl <;> first | (exfalso; omega) | exact ⟨by assumption, by simp [up1]⟩) ⟨by assumption, by simp [up1]⟩ (fun b h0 h1 => by
     have hb4 : b = 0 ∨ b = 1 ∨ b = 2 ∨ b = 3 := by omega
     rcases hb4 with rfl | rfl | rfl | rfl <;> first | (exfalso; omega) | simp [up1])
   refine r_list (by kernel_rfl) (s_val (v_mvI rfl) (s_val (v_ixA 1 (by kernel_rfl) rfl rfl (by decide)) (s_val (v_ldI (by kernel_rfl) rfl (.there .here) (rowA_at0 _ (by decide))) (s_val (v_add rfl rfl (by omega)) (s_val (v_ixA 1 (by kernel_rfl) rfl rfl (by decide)) (s_store1 (v := .int .i64 _) (by kernel_rfl) rfl rfl (.there .here) (rowA_set _ (by decide)) rfl (s_end (n_bnormal (n_round (s := s) ⟨s.F, (up1 (up1 (up1 (up1 s.n 0 0) 1 0) 2 0) 3 (((up1 (up1 (up1 s.n 0 0) 1 0) 2 0)) 3 + 1)), (up1 (up1 (up1 (up1 s.best 0 (maxI (s.best 0) (s.n 0))) 1 (maxI ((up1 s.best 0 (maxI (s.best 0) (s.n 0))) 1) (s.n 1))) 2 (maxI ((up1 (up1 s.best 0 (maxI (s.best 0) (s.n 0))) 1 (maxI ((up1 s.best 0 (maxI (s.best 0) (s.n 0))) 1) (s.n 1))) 2) (s.n 2))) 3 (maxI ((up1 (up1 (up1 s.best 0 (maxI (s.best 0) (s.n 0))) 1 (maxI ((up1 s.best 0 (maxI (s.best 0) (s.n 0))) 1) (s.n 1))) 2 (maxI ((up1 (up1 s.best 0 (maxI (s.best 0) (s.n 0))) 1 (maxI ((up1 s.best 0 (maxI (s.best 0) (s.n 0))) 1) (s.n 1))) 2) (s.n 2))) 3) (s.n 3)))⟩ ⟨_, ⟨hnext.1, hmo⟩, live5 rfl rfl rfl rfl rfl⟩ (fun _ hw => hw) (rank_less hl24 ho.size hnext.2))))))))))
 have q3 := of_decide_eq_true h68
 try simp [up1] at q3
 refine c_skip (n_then (c_block (r_seq (by kernel_rfl) (s_val (v_mvI rfl) (s_val (v_ixA 1 (by kernel_rfl) rfl rfl (by decide)) (s_store1 (v := .int .i64 _) (by kernel_rfl) rfl rfl (.there .here) (rowA_set _ (by decide)) rfl (s_nil (r_list (by kernel_rfl) (s_val (v_mvI rfl) (s_val (v_addL (c := 4) rfl rfl (by decide) (by decide)) (s_val (v_asI rfl) (s_end (n_bnormal (n_thenR (r_succ (c_seq (d_seq (by kernel_rfl) (by kernel_rfl) (fun w hw => hw.drew) (by kernel_rfl) (q_val (v_mvI rfl) (q_val (v_lsI rfl rfl) ?_)))))))))))))))))))
 refine q_val (v_mvB rfl) (q_pass (g := false) rfl rfl rfl (q_pass (g := false) rfl rfl rfl (q_pass (g := false) rfl rfl rfl (q_pass (g := false) rfl rfl rfl (q_pass (g := false) rfl rfl rfl (q_pass (g := false) rfl rfl rfl (q_pass (g := false) rfl rfl rfl (q_val (v_pickF (v := .bool _) rfl rfl rfl) (q_nil (c_condFh rfl rfl rfl (c_exit (n_exit (n_exit (n_bhere (n_then (c_seq (r_seq (by kernel_rfl) (s_val (v_mvI rfl) (s_val (v_eql (k := .i64) rfl rfl) ?_)))))))))))))))))))
 refine s_nil (c_condTh rfl rfl rfl (r_seq (by kernel_rfl) (s_val (v_loadA (m := 4) (by kernel_rfl) rfl (.there (.there .here)) (rowA_size _)) (s_storeA (m := 4) (by kernel_rfl) rfl rfl (.there (.there (.there .here))) (rowA_size _) (rowA_size _) (rowA_all _) (s_nil (c_ret (n_ret (n_bret (n_ret (n_bret ?_))))))))))
 have hseen : Seen h.core ps s.n (up1 (up1 (up1 (up1 s.best 0 (maxI (s.best 0) (s.n 0))) 1 (maxI ((up1 s.best 0 (maxI (s.best 0) (s.n 0))) 1) (s.n 1))) 2 (maxI ((up1 (up1 s.best 0 (maxI (s.best 0) (s.n 0))) 1 (maxI ((up1 s.best 0 (maxI (s.best 0) (s.n 0))) 1) (s.n 1))) 2) (s.n 2))) 3 (maxI ((up1 (up1 (up1 s.best 0 (maxI (s.best 0) (s.n 0))) 1 (maxI ((up1 s.best 0 (maxI (s.best 0) (s.n 0))) 1) (s.n 1))) 2 (maxI ((up1 (up1 s.best 0 (maxI (s.best 0) (s.n 0))) 1 (maxI ((up1 s.best 0 (maxI (s.best 0) (s.n 0))) 1) (s.n 1))) 2) (s.n 2))) 3) (s.n 3))) := (ho.yes ((together_core h ps s.n).trans h44) (fun b hb => by
       have hb4 : b = 0 ∨ b = 1 ∨ b = 2 ∨ b = 3 := by omega
       rcases hb4 with rfl | rfl | rfl | rfl <;> simp [up1, joinM, maxI]))
 refine n_doneC (m := 4) rfl (by decide) rfl (by kernel_rfl) (.there (.there (.there .here))) (rowA_size _) (congrArg Value.agg ?_)
 exact (mostM_row (hseen.most (fun b hb => by
       have hb4 : b = 0 ∨ b = 1 ∨ b = 2 ∨ b = 3 := by omega
       rcases hb4 with rfl | rfl | rfl | rfl <;> assumption))).symm
end Go.Proofs.YtmkboljfbmlebacGreat
namespace Go.Proofs.YtmkboljfbmlebacGreat
open Go.RowKit
set_option linter.unusedSimpArgs false
set_option linter.unusedVariables false
section
variable {P : Program} {n : Nat} {C0 C1 : World → Prop} {f : Nat → Value} {l : List Oper} {Ψ : Nat → Value → Prop} {Q : Exit → (Nat → Value) → World → Prop}
def Fix (Ψ : Nat → Value → Prop) : Nat → Value → World → Prop := fun d v _ => Ψ d v
def ObW (P : Program) (C0 C1 : World → Prop) (f : Nat → Value) (l : List Oper) (Ψ : Nat → Value → Prop) (o : Oper) : Prop :=
 ∀ g, (∀ t ∈ o.looksAt l.toArray, (t ∈ dstsOf l → Ψ t (g t)) ∧ (t ∉ dstsOf l → g t = f t)) → o.guard = none ∧ sC P l.toArray (fun g' w' => ∃ v, g' = updo g o.dst v ∧ C1 w' ∧ ∀ d, o.dst = some d → Ψ d v) [o] g C0
structure FlowInvW (C0 C1 : World → Prop) (j0 : Nat) (f : Nat → Value) (l : List Oper) (Ψ : Nat → Value → Prop) (s : Array Bool) (g : Nat → Value) (w : World) : Prop where
 size : s.size = l.length
 cls0 : s[j0]? = some false → C0 w
 cls1 : s[j0]? = some true → C1 w
 done : ∀ (i : Nat) (o : Oper) (d : Nat), l[i]? = some o → s[i]? = some true → o.dst = some d → Ψ d (g d)
 out : ∀ t, t ∉ dstsOf l → g t = f t
theorem d_flowW {id j0 : Nat} {o0 : Oper} (hm : P.follows .mixedOrders = true) (hB : opsB n l.toArray = true) (hF : flowB .any l = true) (hj0 : l[j0]? = some o0) (hC0 : ∀ w w', C0 w → Bel w.heap.size w w' → C0 w') (hC1 : ∀ w w', C1 w → Bel w.heap.size w w' → C1 w')
   (h0 : Obs P C0 f l (Fix Ψ) (l.eraseIdx j0)) (h1 : Obs P C1 f l (Fix Ψ) (l.eraseIdx j0)) (hst : ObW P C0 C1 f l Ψ o0)
   (k : ∀ g w, C1 w → (∀ d ∈ dstsOf l, Ψ d (g d)) → (∀ t, t ∉ dstsOf l → g t = f t) → Q .normal g w) : cC P n (.region id l.toArray true) Q f C0 := by
 simp only [flowB, Bool.and_eq_true, decide_eq_true_eq, List.all_eq_true] at hF
 obtain ⟨⟨hnd, hsel⟩, hall⟩ := hF
 have hop : ∀ (i : Nat) (o : Oper), l[i]? = some o → (∀ t ∈ o.looksAt l.toArray, ∀ (j : Nat) (u : Oper), l[j]? = some u → u.dst = some t → ∃ e ∈ o.after, Region.binds .any e = true ∧ e.on = j) ∧ (∀ e ∈ o.after, Region.binds .any e = true → e.on < i) := by
   intro i o hi
   have := hall (o, i) (List.mem_zipIdx_iff_getElem?.2 hi)
   simp only [Bool.and_eq_true, List.all_eq_true] at this
   obtain ⟨h1, h2⟩ := this
   refine ⟨fun t ht j u hj hu => ?_, fun e he hb => ?_⟩
   · have := h1 t ht (u, j) (List.mem_zipIdx_iff_getElem?.2 hj)
     simp [hu] at this
     obtain ⟨i', hi', e1, e2⟩ := this
     exact ⟨_, Array.getElem_mem hi', e1, e2⟩
   · have := Array.all_eq_true_iff_forall_mem.1 h2 e he
     simpa [hb] using this
 have hB' : ∀ o ∈ l, operB n l.toArray o = true := by simpa [opsB] using hB
 have hj0l : j0 < l.length := (List.getElem?_eq_some_iff.1 hj0).1
 have main : ∀ (fuel : Nat) (s : Array Bool) (g : Nat → Value) (w : World), FlowInvW C0 C1 j0 f l Ψ s g w → s.toList.countP unset ≤ fuel → wpAny P .any l.toArray (fun e a w => ∃ f, a = Fa n f ∧ Q e f w) fuel s (Fa n g) w := by
   have all : ∀ (s : Array Bool) (g : Nat → Value) (w : World), FlowInvW C0 C1 j0 f l Ψ s g w → Region.ready .any l.toArray s = [] → Q .normal g w := by
     intro s g w inv hr
     have hls : ∀ i, i < l.length → s[i]? = some true := by
       intro i
       induction i using Nat.strongRecOn with
       | _ i ih =>
         intro hi
         have his : i < s.size := by rw [inv.size]; exact hi
         cases hv : s[i] with
         | true => simp [his, hv]
         | false =>
           exfalso
           have : i ∈ Region.ready .any l.toArray s := mem_ready.2 ⟨by simp [Array.getD, his, hv], l[i], by simp [hi], fun e he hb => by
             have hlt := (hop i l[i] (by simp [hi])).2 e he hb
             have := ih e.on hlt (by omega)
             have hsz := (Array.getElem?_eq_some_iff.1 this)
             obtain ⟨h1, h2⟩ := hsz
             simp [Array.getD, h1, h2]⟩
           rw [hr] at this
           cases this
     refine k g w (inv.cls1 (hls j0 hj0l)) (fun d hd => ?_) inv.out
     obtain ⟨o, ho, hd'⟩ := List.mem_filterMap.1 hd
     obtain ⟨i, hi, he⟩ := List.getElem_of_mem ho
     exact inv.done i o d (by simp [hi, he]) (hls i hi) hd'
   intro fuel
   induction fuel with
   | zero =>
     intro s g w inv hc
     have hr : Region.ready .any l.toArray s = [] := by
       cases hr : Region.ready .any l.toArray s with
       | nil => rfl
       | cons i r =>
         exfalso
         have hi := (mem_ready.1 (show i ∈ Region.ready .any l.toArray s by rw [hr]; simp)).1
         have : false ∈ s.toList := by
           by_cases hs : i < s.size
           · simp [Array.getD, hs] at hi
             rw [← hi]; simp
           · simp [Array.getD, hs] at hi
         have := List.countP_pos_iff (p := unset).2 ⟨false, this, rfl⟩
         omega
     exact ⟨hr, g, rfl, all s g w inv hr⟩
   | succ fuel ih =>
     intro s g w inv hc
     refine ⟨fun hr => ⟨g, rfl, all s g w inv hr⟩, fun i hi => ?_⟩
     obtain ⟨hun, o, ho, hed⟩ := mem_ready.1 hi
     have hol : l[i]? = some o := by simpa using ho
     have hom : o ∈ l := List.mem_of_getElem? hol
     have his : i < s.size := by
       rcases Nat.lt_or_ge i s.size with h | h
       · exact h
       · have hn : ¬ i < s.size := by omega
         simp [Array.getD, hn] at hun
     have hfalse : s[i] = false := by simpa [Array.getD, his] using hun
     have hcount : (s.setIfInBounds i true).toList.countP unset ≤ fuel := by
       have e1 : unset (s.toList[i]'(by simpa using his)) = true := by simp [unset, hfalse]
       have h0 : 0 < s.toList.countP unset := List.countP_pos_iff.2 ⟨s.toList[i]'(by simpa using his), List.getElem_mem _, e1⟩
       rw [Array.toList_setIfInBounds, List.countP_set (by simpa using his), if_pos e1, if_neg (by simp [unset])]
       omega
     have hlk : ∀ t ∈ o.looksAt l.toArray, (t ∈ dstsOf l → Ψ t (g t)) ∧ (t ∉ dstsOf l → g t = f t) := fun t ht => ⟨fun htd => by
       obtain ⟨u, hu, hut⟩ := List.mem_filterMap.1 htd
       obtain ⟨j, hj, he⟩ := List.getElem_of_mem hu
       have hj' : l[j]? = some u := by simp [hj, he]
       obtain ⟨e, he1, he2, he3⟩ := (hop i o hol).1 t ht j u hj' hut
       have := hed e he1 he2
       rw [he3] at this
       refine inv.done j u t hj' ?_ hut
       have hjs : j < s.size := by rw [inv.size]; exact hj
       simp [Array.getD, hjs] at this
       simp [hjs, this], inv.out t⟩
     have next : ∀ v w', ((s.setIfInBounds i true)[j0]? = some false → C0 w') → ((s.setIfInBounds i true)[j0]? = some true → C1 w') → (∀ d, o.dst = some d → Ψ d v) → FlowInvW C0 C1 j0 f l Ψ (s.setIfInBounds i true) (updo g o.dst v) w' := by
       intro v w' hc0 hc1 hv
       refine ⟨by simp [inv.size], hc0, hc1, fun j u d hj hs hu => ?_, fun t ht => ?_⟩
       · by_cases hji : j = i
         · subst hji
           rw [hol] at hj
           simp at hj; subst hj
           rw [hu]
           simp only [updo, upd_same]
           exact hv d hu
         · have hs' : s[j]? = some true := by rw [Array.getElem?_setIfInBounds_ne (Ne.symm hji)] at hs; exact hs
           have hne : o.dst ≠ some d := fun e => hji (dst_unique hnd hj hol hu e)
           have := inv.done j u d hj hs' hu
           cases hod : o.dst with
           | none => exact this
           | some d' =>
             simp only [updo]
             rw [upd_other g v (fun e => hne (by rw [hod, e]))]
             exact this
       · cases hod : o.dst with
         | none => exact inv.out t ht
         | some d' =>
           simp only [updo]
           rw [upd_other g v (fun e => ht (List.mem_filterMap.2 ⟨o, hom, by rw [hod, e]⟩))]
           exact inv.out t ht
     have hob : if Region.wanted o (yf l.toArray g) then opk P o g w (fun g' w' => ∃ v, g' = updo g o.dst v ∧ FlowInvW C0 C1 j0 f l Ψ (s.setIfInBounds i true) (updo g o.dst v) w') else FlowInvW C0 C1 j0 f l Ψ (s.setIfInBounds i true) (updo g o.dst undef) w := by
       by_cases hij : i = j0
       · subst hij
         rw [hol] at hj0
         simp at hj0; subst hj0
         obtain ⟨hgd, hsc⟩ := hst g hlk
         have hc0 := inv.cls0 (by simp [his, hfalse])
         have := hsc w hc0
         have hwt : Region.wanted o (yf l.toArray g) = true := by
           unfold Region.wanted; rw [hgd]
         unfold sw at this
         rw [if_pos hwt] at this ⊢
         unfold opk at this ⊢
         have fin : ∀ g' w', (∃ v, g' = updo g o.dst v ∧ C1 w' ∧ ∀ d, o.dst = some d → Ψ d v) → ∃ v, g' = updo g o.dst v ∧ FlowInvW C0 C1 i f l Ψ (s.setIfInBounds i true) (updo g o.dst v) w' := by
           rintro g' w' ⟨v, e, hc1, hv⟩
           exact ⟨v, e, next v w' (fun hx => by simp [his] at hx) (fun _ => hc1) hv⟩
         generalize (execOp (ev g) o).run P w = r at this ⊢
         cases r with
         | ok nx w' =>
           cases nx <;> simp only at this ⊢
           case value v => exact fin _ _ this
           case skip => exact fin _ _ this
           case enter fn args => exact Calls.mono this fun e w'' ⟨v, he, h⟩ => ⟨v, he, fin _ _ h⟩
         | halt x w' => exact this
       · have hmem : o ∈ l.eraseIdx j0 := List.mem_eraseIdx_iff_getElem?.2 ⟨i, hij, hol⟩
         have hsj : (s.setIfInBounds i true)[j0]? = s[j0]? := Array.getElem?_setIfInBounds_ne hij
         have both : ∀ C : World → Prop, (∀ w w', C w → Bel w.heap.size w w' → C w') → Obs P C f l (Fix Ψ) (l.eraseIdx j0) → C w → ((s[j0]? = some false → C = C0) ∧ (s[j0]? = some true → C = C1)) →
             if Region.wanted o (yf l.toArray g) then opk P o g w (fun g' w' => ∃ v, g' = updo g o.dst v ∧ FlowInvW C0 C1 j0 f l Ψ (s.setIfInBounds i true) (updo g o.dst v) w') else FlowInvW C0 C1 j0 f l Ψ (s.setIfInBounds i true) (updo g o.dst undef) w := by
           intro C hC hO hw hcc
           have hb := hO.mem o hmem g w hw hlk
           have nx : ∀ v w', Bel w.heap.size w w' → (∀ d, o.dst = some d → Ψ d v) → FlowInvW C0 C1 j0 f l Ψ (s.setIfInBounds i true) (updo g o.dst v) w' := fun v w' hbel hv =>
             next v w' (fun hx => by rw [hsj] at hx; rw [← hcc.1 hx]; exact hC w w' hw hbel) (fun hx => by rw [hsj] at hx; rw [← hcc.2 hx]; exact hC w w' hw hbel) hv
           split
           · rename_i hwt
             rw [if_pos hwt] at hb
             unfold opk at hb ⊢
             generalize (execOp (ev g) o).run P w = r at hb ⊢
             cases r with
             | ok nx' w' =>
               cases nx' <;> simp only at hb ⊢
               case value v => obtain ⟨v', e, hbel, hv⟩ := hb; exact ⟨v', e, nx v' w' hbel hv⟩
               case skip => obtain ⟨v', e, hbel, hv⟩ := hb; exact ⟨v', e, nx v' w' hbel hv⟩
               case enter fn args => exact Calls.mono hb fun e w'' ⟨v, he, v', e', hbel, hv⟩ => ⟨v, he, v', e', nx v' w'' hbel hv⟩
             | halt x w' => exact hb
           · rename_i hwt
             rw [if_neg hwt] at hb
             exact nx undef w (Bel.refl _ _) hb
         have hjs : j0 < s.size := by rw [inv.size]; exact hj0l
         cases hv : s[j0] with
         | false =>
           have e : s[j0]? = some false := by simp [hjs, hv]
           exact both C0 hC0 h0 (inv.cls0 e) ⟨fun _ => rfl, fun h => by rw [e] at h; simp at h⟩
         | true =>
           have e : s[j0]? = some true := by simp [hjs, hv]
           exact both C1 hC1 h1 (inv.cls1 e) ⟨fun h => by rw [e] at h; simp at h, fun _ => rfl⟩
     unfold wpOp
     simp only [ho]
     rw [Fa_wanted (hB' o hom)]
     split
     · rename_i hw
       rw [if_pos hw] at hob
       refine Or.inl ?_
       unfold Oper.wp
       rw [Fa_exec (hB' o hom)]
       unfold opk at hob
       generalize (execOp (ev g) o).run P w = r at hob
       cases r with
       | ok nx w' =>
         cases nx <;> simp only at hob <;> simp only [Oper.upon]
         case value v =>
           obtain ⟨v', e, hinv⟩ := hob
           rw [Fa_put, e]
           exact ih _ _ _ hinv hcount
         case skip =>
           obtain ⟨v', e, hinv⟩ := hob
           rw [Fa_put, e]
           exact ih _ _ _ hinv hcount
         case enter fn args =>
           refine Calls.mono hob fun e w'' ⟨v, he, v', e', hinv⟩ => ?_
           subst he
           show wpAny P .any l.toArray _ fuel _ ((Fa n g).put o.dst v) w''
           rw [Fa_put, e']
           exact ih _ _ _ hinv hcount
       | halt x w' => exact hob.elim
     · rename_i hw
       rw [if_neg hw] at hob
       rw [Fa_put]
       exact ih _ _ _ hob hcount
 intro w hw
 refine wp_region_any hm ?_
 refine main _ _ f w.drew ⟨by simp, fun _ => hC0 w _ hw ((Bel.refl _ _).drew), fun hx => ?_, fun i o d hi hs hd => ?_, fun _ _ => rfl⟩ ?_
 · rw [Array.getElem?_replicate] at hx
   split at hx <;> simp at hx
 · rw [Array.getElem?_replicate] at hs
   split at hs <;> simp at hs
 · have := List.countP_le_length (p := unset) (l := (Array.replicate l.toArray.size false).toList)
   simpa using this
def rowV (d : Nat) (v : Value) (T : Nat → Value → Prop) : Nat → Value → Prop := fun i => bif Nat.beq i d then (fun u => u = v) else T i
def AnyV : Nat → Value → Prop := fun _ _ => True
theorem ow_end {g : Nat → Value} {ops : Array Oper} : sC P ops (fun g' w' => ∃ v, g' = updo g none v ∧ C1 w' ∧ ∀ d, (none : Option Nat) = some d → Ψ d v) [] g C1 := fun w hw => ⟨undef, rfl, hw, fun d h => by cases h⟩
variable {w0 : World} {F : Addr → Value → Prop} {L L' : List (Nat × Obj)}
theorem fw_seq {id j0 : Nat} {o0 : Oper} {y : Code} (hm : P.follows .mixedOrders = true) (hB : opsB n l.toArray = true) (hF : flowB .any l = true) (hj0 : l[j0]? = some o0)
   (h0 : Obs P (Has w0 F L) f l (Fix Ψ) (l.eraseIdx j0)) (h1 : Obs P (Has w0 F L') f l (Fix Ψ) (l.eraseIdx j0)) (hst : ObW P (Has w0 F L) (Has w0 F L') f l Ψ o0)
   (k : ∀ g, (∀ d ∈ dstsOf l, Ψ d (g d)) → (∀ t, t ∉ dstsOf l → g t = f t) → cC P n y Q g (Has w0 F L')) : cC P n (.seq (.region id l.toArray true) y) Q f (Has w0 F L) :=
 c_seq (d_flowW hm hB hF hj0 (fun w w' hw hb => hw.below hb) (fun w w' hw hb => hw.below hb) h0 h1 hst (fun g w hw h1 h2 => k g h1 h2 w hw))
variable {d : Nat} {op : Op} {ty : TypeId} {pos : String} {af : Array Edge} {C : World → Prop}
theorem obw_val {v : Value} (h : ∀ (g : Nat → Value), (∀ t ∈ (⟨some d, op, ty, pos, af, none⟩ : Oper).looksAt l.toArray, (t ∈ dstsOf l → Ψ t (g t)) ∧ (t ∉ dstsOf l → g t = f t)) → Val P g C ⟨some d, op, ty, pos, af, none⟩ v ∧ Ψ d v) : Ob P C f l (Fix Ψ) ⟨some d, op, ty, pos, af, none⟩ := by
 intro g w hw hl
 rw [if_pos wanted_free]
 obtain ⟨hv, hp⟩ := h g hl
 unfold opk
 rw [hv.out w hw]
 exact ⟨v, rfl, Bel.refl _ _, fun e he => by simp at he; subst he; exact hp⟩
end
end Go.Proofs.YtmkboljfbmlebacGreat
namespace Go.Proofs.YtmkboljfbmlebacGreat
set_option linter.unusedSimpArgs false
set_option linter.unusedVariables false
structure ActS where
  kind : Int
  a : Int
  b : Int
  c : Int
  n : Int
deriving DecidableEq
def zig (n : Int) : Nat := if n < 0 then (-2 * n - 1).toNat else (2 * n).toNat
def zag (u : Nat) : Int := if u % 2 = 1 then -((u / 2 : Nat) : Int) - 1 else ((u / 2 : Nat) : Int)
theorem zag_zig (n : Int) : zag (zig n) = n := by unfold zag zig; split <;> split <;> omega
def digs (u : Nat) : List Nat := if u < 128 then [u] else (128 + u % 128) :: digs (u / 128)
termination_by u
theorem digs_lo {u : Nat} (h : u < 128) : digs u = [u] := by rw [digs, if_pos h]
theorem digs_hi {u : Nat} (h : ¬ u < 128) : digs u = (128 + u % 128) :: digs (u / 128) := by rw [digs, if_neg h]
theorem digs_byte (u : Nat) : ∀ b ∈ digs u, b < 256 := by
 induction u using Nat.strongRecOn with
 | _ u ih =>
   by_cases h : u < 128
   · rw [digs_lo h]; intro b hb; simp at hb; omega
   · rw [digs_hi h]
     intro b hb
     rcases List.mem_cons.1 hb with rfl | hb
     · omega
     · exact ih (u / 128) (by omega) b hb
theorem digs_len (k : Nat) : ∀ u, u < 128 ^ (k + 1) → (digs u).length ≤ k + 1 := by
 induction k with
 | zero => intro u h; rw [digs_lo (by omega)]; simp
 | succ k ih =>
   intro u h
   by_cases hl : u < 128
   · rw [digs_lo hl]; simp
   · rw [digs_hi hl]
     have := ih (u / 128) (Nat.div_lt_of_lt_mul (by rw [Nat.pow_succ] at h; omega))
     simp only [List.length_cons]; omega
theorem digs_pos (u : Nat) : 1 ≤ (digs u).length := by
 by_cases h : u < 128
 · rw [digs_lo h]; simp
 · rw [digs_hi h]; simp
def undig : Nat → List Nat → Option (Nat × List Nat)
 | 0, _ => none
 | _ + 1, [] => none
 | f + 1, b :: r => if b < 128 then some (b, r) else (undig f r).map fun p => (b - 128 + 128 * p.1, p.2)
theorem undig_digs (f : Nat) : ∀ u r, u < 128 ^ (f + 1) → undig (f + 1) (digs u ++ r) = some (u, r) := by
 induction f with
 | zero => intro u r h; have hl : u < 128 := by omega
           rw [digs_lo hl]; simp [undig, hl]
 | succ f ih =>
   intro u r h
   by_cases hl : u < 128
   · rw [digs_lo hl]; simp [undig, hl]
   · rw [digs_hi hl]
     have := ih (u / 128) r (Nat.div_lt_of_lt_mul (by rw [Nat.pow_succ] at h; omega))
     rw [List.cons_append, undig, if_neg (show ¬ 128 + u % 128 < 128 by omega), this, Option.map_some]
     congr 2
     show 128 + u % 128 - 128 + 128 * (u / 128) = u
     omega
def notedI (n : Int) : Bool := decide (-1073741824 ≤ n) && decide (n ≤ 1073741824)
def noted (x : ActS) : Bool := notedI x.kind && notedI x.a && notedI x.b && notedI x.c && notedI x.n
def bodyOf (x : ActS) : List Nat := digs (zig x.kind) ++ digs (zig x.a) ++ digs (zig x.b) ++ digs (zig x.c) ++ digs (zig x.n)
def sumOf (l : List Nat) : Nat × Nat := l.foldl (fun p b => (p.1 + b, p.2 + (p.1 + b))) (1, 0)
def frameOf (x : ActS) : List Nat := (bodyOf x).length :: (bodyOf x ++ [(sumOf (bodyOf x)).1 % 251, (sumOf (bodyOf x)).2 % 251])
theorem zig_lt {n : Int} (h : notedI n = true) : zig n < 128 ^ 5 := by
 simp [notedI] at h
 unfold zig; split <;> omega
theorem body_len {x : ActS} (h : noted x = true) : 5 ≤ (bodyOf x).length ∧ (bodyOf x).length ≤ 25 := by
 simp only [noted, Bool.and_eq_true] at h
 obtain ⟨⟨⟨⟨h1, h2⟩, h3⟩, h4⟩, h5⟩ := h
 have a1 := digs_len 4 _ (zig_lt h1)
 have a2 := digs_len 4 _ (zig_lt h2)
 have a3 := digs_len 4 _ (zig_lt h3)
 have a4 := digs_len 4 _ (zig_lt h4)
 have a5 := digs_len 4 _ (zig_lt h5)
 have b1 := digs_pos (zig x.kind)
 have b2 := digs_pos (zig x.a)
 have b3 := digs_pos (zig x.b)
 have b4 := digs_pos (zig x.c)
 have b5 := digs_pos (zig x.n)
 simp only [bodyOf, List.length_append]; omega
theorem frame_len (x : ActS) : (frameOf x).length = (bodyOf x).length + 3 := by simp [frameOf]
theorem body_byte (x : ActS) : ∀ b ∈ bodyOf x, b < 256 := by
 intro b hb
 simp only [bodyOf, List.mem_append] at hb
 rcases hb with (((h | h) | h) | h) | h <;> exact digs_byte _ b h
theorem frame_byte {x : ActS} (h : noted x = true) : ∀ b ∈ frameOf x, b < 256 := by
 intro b hb
 have := body_len h
 simp only [frameOf, List.mem_cons, List.mem_append] at hb
 rcases hb with rfl | hb | rfl | rfl | hb
 · omega
 · exact body_byte x b hb
 · omega
 · omega
 · cases hb
def parse5 (l : List Nat) : Option (ActS × List Nat) :=
 match undig 7 l with
 | none => none
 | some (u1, l1) => match undig 7 l1 with
   | none => none
   | some (u2, l2) => match undig 7 l2 with
     | none => none
     | some (u3, l3) => match undig 7 l3 with
       | none => none
       | some (u4, l4) => match undig 7 l4 with
         | none => none
         | some (u5, l5) => some (⟨zag u1, zag u2, zag u3, zag u4, zag u5⟩, l5)
theorem zig_lt7 {n : Int} (h : notedI n = true) : zig n < 128 ^ 7 := Nat.lt_of_lt_of_le (zig_lt h) (by decide)
theorem parse_body {x : ActS} (h : noted x = true) (r : List Nat) : parse5 (bodyOf x ++ r) = some (x, r) := by
 simp only [noted, Bool.and_eq_true] at h
 obtain ⟨⟨⟨⟨h1, h2⟩, h3⟩, h4⟩, h5⟩ := h
 simp only [parse5, bodyOf, List.append_assoc]
 rw [undig_digs 6 _ _ (zig_lt7 h1)]
 simp only
 rw [undig_digs 6 _ _ (zig_lt7 h2)]
 simp only
 rw [undig_digs 6 _ _ (zig_lt7 h3)]
 simp only
 rw [undig_digs 6 _ _ (zig_lt7 h4)]
 simp only
 rw [undig_digs 6 _ _ (zig_lt7 h5)]
 simp only [zag_zig]
def Stands (x : ActS) (l : List Nat) : Prop := noted x = true ∧ frameOf x <+: l
def first? (l : List Nat) : Option ActS := match l with
 | [] => none
 | k :: r => match parse5 (r.take k) with
   | some (x, []) => if noted x = true ∧ frameOf x <+: l then some x else none
   | _ => none
theorem first_iff (l : List Nat) (x : ActS) : first? l = some x ↔ Stands x l := by
 constructor
 · intro h
   unfold first? at h
   split at h
   · cases h
   · split at h
     · split at h
       · rename_i hh
         simp at h; subst h; exact hh
       · cases h
     · cases h
 · rintro ⟨nx, hp⟩
   obtain ⟨r, hr⟩ := hp
   have hl : l = (bodyOf x).length :: (bodyOf x ++ ([(sumOf (bodyOf x)).1 % 251, (sumOf (bodyOf x)).2 % 251] ++ r)) := by rw [← hr]; simp [frameOf]
   have ht : (bodyOf x ++ ([(sumOf (bodyOf x)).1 % 251, (sumOf (bodyOf x)).2 % 251] ++ r)).take (bodyOf x).length = bodyOf x := List.take_left
   have hpp := parse_body nx []
   rw [List.append_nil] at hpp
   subst hl
   unfold first?
   simp only [ht, hpp]
   rw [if_pos]
   exact ⟨nx, ⟨r, hr⟩⟩
theorem first_none (l : List Nat) : first? l = none ↔ ∀ x, ¬ Stands x l := by
 constructor
 · intro h x hx
   rw [(first_iff l x).2 hx] at h; cases h
 · intro h
   cases hf : first? l with
   | none => rfl
   | some x => exact absurd ((first_iff l x).1 hf) (h x)
def readM (l : List Nat) : List ActS := match h : first? l with
  | none => []
  | some x => x :: readM (l.drop (frameOf x).length)
termination_by l.length
decreasing_by
  have hs := ((first_iff l x).1 h).2.length_le
  have := frame_len x
  simp only [List.length_drop]
  omega
theorem readM_none {l : List Nat} (h : first? l = none) : readM l = [] := by
 rw [readM]
 split
 · rfl
 · rename_i x hx; rw [h] at hx; cases hx
theorem readM_some {l : List Nat} {x : ActS} (h : first? l = some x) : readM l = x :: readM (l.drop (frameOf x).length) := by
 rw [readM]
 split
 · rename_i hx; rw [h] at hx; cases hx
 · rename_i y hy; rw [h] at hy; simp at hy; subst hy; rfl
def bytesOf (xs : List ActS) : List Nat := xs.flatMap frameOf
theorem readM_bytes (l : List Nat) : bytesOf (readM l) <+: l ∧ ∀ x ∈ readM l, noted x = true := by
 generalize hn : l.length = n
 induction n using Nat.strongRecOn generalizing l with
 | _ n ih =>
   cases h : first? l with
   | none => rw [readM_none h]; exact ⟨by simp [bytesOf], by simp⟩
   | some x =>
     rw [readM_some h]
     obtain ⟨nx, r, hr⟩ := (first_iff l x).1 h
     have hfl := frame_len x
     have e : l.drop (frameOf x).length = r := by rw [← hr]; exact List.drop_left
     rw [e]
     have hlen : l.length = (frameOf x).length + r.length := by rw [← hr]; simp
     obtain ⟨h1, h2⟩ := ih r.length (by omega) r rfl
     refine ⟨?_, fun y hy => ?_⟩
     · obtain ⟨s, hs⟩ := h1
       exact ⟨s, by
         show frameOf x ++ bytesOf (readM r) ++ s = l
         rw [List.append_assoc, hs, hr]⟩
     · rcases List.mem_cons.1 hy with rfl | hy
       · exact nx
       · exact h2 y hy
theorem first_frame {x : ActS} (h : noted x = true) (r : List Nat) : first? (frameOf x ++ r) = some x := (first_iff _ x).2 ⟨h, r, rfl⟩
theorem first_cut {x : ActS} (h : noted x = true) {l : List Nat} (hl : l <+: frameOf x) (hlt : l.length < (frameOf x).length) : first? l = none := by
 rw [first_none]
 rintro y ⟨ny, s, hs⟩
 obtain ⟨r, hr⟩ := hl
 rw [← hs] at hr
 have h1 : (bodyOf y).length = (bodyOf x).length := by
   simp only [frameOf, List.cons_append, List.cons.injEq] at hr
   exact hr.1
 have h2 := frame_len x
 have h3 := frame_len y
 have h4 : l.length = (frameOf y).length + s.length := by rw [← hs]; simp
 omega
theorem readM_frame {x : ActS} (h : noted x = true) (r : List Nat) : readM (frameOf x ++ r) = x :: readM r := by
 rw [readM_some (first_frame h r)]
 congr 2
 exact List.drop_left
theorem readM_all : ∀ (xs : List ActS), (∀ x ∈ xs, noted x = true) → ∀ l, (∀ y, ¬ Stands y l) → readM (bytesOf xs ++ l) = xs
 | [], _, l, hl => by simpa [bytesOf] using readM_none ((first_none l).2 hl)
 | x :: r, h, l, hl => by
   have e : bytesOf (x :: r) ++ l = frameOf x ++ (bytesOf r ++ l) := by simp [bytesOf]
   rw [e, readM_frame (h x (by simp)), readM_all r (fun y hy => h y (by simp [hy])) l hl]
theorem readM_self {xs : List ActS} (h : ∀ x ∈ xs, noted x = true) : readM (bytesOf xs) = xs := by
 have := readM_all xs h [] (fun y hy => by
   have h1 : (frameOf y).length ≤ 0 := hy.2.length_le
   have := frame_len y
   omega)
 rwa [List.append_nil] at this
end Go.Proofs.YtmkboljfbmlebacGreat
namespace Go.Proofs.YtmkboljfbmlebacGreat
open Go.RowKit
set_option linter.unusedSimpArgs false
set_option linter.unusedVariables false
def bs (l : List Nat) : ByteArray := ⟨(l.map UInt8.ofNat).toArray⟩
abbrev S (l : List Nat) : Value := .string (bs l)
abbrev U8 (n : Int) : Value := .int .u8 n
def Byt (l : List Nat) : Prop := ∀ b ∈ l, b < 256
theorem bs_size (l : List Nat) : (bs l).size = l.length := by simp [bs, ByteArray.size]
theorem bs_append (l m : List Nat) : bs (l ++ m) = bs l ++ bs m := by
 apply ByteArray.ext
 simp [bs, ByteArray.data_append]
theorem bs_toList (l : List Nat) : (bs l).toList = l.map UInt8.ofNat := by unfold bs; rw [ByteArray.toList_mk]
theorem u8_inj {a b : Nat} (ha : a < 256) (hb : b < 256) (h : UInt8.ofNat a = UInt8.ofNat b) : a = b := by
 have := congrArg UInt8.toNat h
 simp [UInt8.toNat_ofNat] at this
 omega
theorem map_u8_inj : ∀ {l m : List Nat}, Byt l → Byt m → l.map UInt8.ofNat = m.map UInt8.ofNat → l = m
 | [], [], _, _, _ => rfl
 | [], _ :: _, _, _, h => by simp at h
 | _ :: _, [], _, _, h => by simp at h
 | a :: l, b :: m, hl, hm, h => by
   simp only [List.map_cons, List.cons.injEq] at h
   rw [u8_inj (hl a (by simp)) (hm b (by simp)) h.1, map_u8_inj (fun x hx => hl x (by simp [hx])) (fun x hx => hm x (by simp [hx])) h.2]
theorem bs_get {l : List Nat} {i b : Nat} (h : l[i]? = some b) (hb : b < 256) : ∃ hi : i < (bs l).size, ((bs l)[i]'hi).toNat = b := by
 obtain ⟨hi, e⟩ := List.getElem?_eq_some_iff.1 h
 refine ⟨by rw [bs_size]; exact hi, ?_⟩
 show ((l.map UInt8.ofNat).toArray[i]'(by simpa using hi)).toNat = b
 simp [e]
 omega
theorem bs_extract (l : List Nat) (i j : Nat) : (bs l).extract i j = bs ((l.take j).drop i) := by
 apply ByteArray.ext
 simp only [ByteArray.data_extract, bs]
 apply Array.ext_getElem?
 intro k
 simp only [Array.getElem?_extract, List.size_toArray, List.length_map, List.getElem?_toArray, List.getElem?_map, List.getElem?_drop, List.getElem?_take]
 by_cases h1 : k < min j l.length - i
 · rw [if_pos h1, if_pos (by omega)]
 · rw [if_neg h1]
   by_cases h2 : i + k < j
   · rw [if_pos h2, List.getElem?_eq_none (by omega)]; rfl
   · rw [if_neg h2]; rfl
theorem Byt.drop {l : List Nat} (h : Byt l) (n : Nat) : Byt (l.drop n) := fun b hb => h b (List.mem_of_mem_drop hb)
theorem Byt.take {l : List Nat} (h : Byt l) (n : Nat) : Byt (l.take n) := fun b hb => h b (List.mem_of_mem_take hb)
theorem Byt.append {l m : List Nat} (h : Byt l) (h' : Byt m) : Byt (l ++ m) := fun b hb => (List.mem_append.1 hb).elim (h b) (h' b)
theorem byt_nil : Byt [] := fun b hb => by cases hb
def strB (P : Program) (T : TypeId) : Bool := match P.underlying T with
 | some .string => true
 | _ => false
theorem strB_spec {P : Program} {T : TypeId} (h : strB P T = true) : P.underlying T = some .string := by
 unfold strB at h
 split at h
 · assumption
 · cases h
def bytesB (P : Program) (T : TypeId) : Bool := match P.underlying T with
 | some (.slice e) => (match P.underlying e with | some (.int .u8) => true | _ => false)
 | _ => false
theorem bytesB_spec {P : Program} {T : TypeId} (h : bytesB P T = true) : ∃ e, P.underlying T = some (.slice e) ∧ P.underlying e = some (.int .u8) := by
 unfold bytesB at h
 split at h
 · rename_i e hu
   split at h
   · rename_i he; exact ⟨e, hu, he⟩
   · cases h
 · cases h
def kindB (P : Program) (S T : TypeId) (k : IntKind) : Bool := (P.underlying S).isSome && (match P.underlying T with | some (.int k') => decide (k' = k) | _ => false)
section
variable {P : Program} {f : Nat → Value} {C : World → Prop} {dst : Option Nat} {ty : TypeId} {pos : String} {af : Array Edge} {gd : Option (Nat × Bool)}
theorem v_convK {x : Operand} {Sx T : TypeId} {k k' : IntKind} {n : Int} (hT : kindB P Sx T k = true) (hx : ev f x = .int k' n) : Val P f C ⟨dst, .convert Sx T x, ty, pos, af, gd⟩ (.int k (k.wrap n)) := by
 refine ⟨fun w _ => ?_⟩
 unfold kindB at hT
 simp only [Bool.and_eq_true] at hT
 obtain ⟨h1, h2⟩ := hT
 split at h2
 · rename_i k2 hu
   have e := of_decide_eq_true h2
   subst e
   have hk : P.intKind T = k2 := by simp [Program.intKind, hu]
   have := run_convert_int (P := P) w Sx T k' n h1 (by rw [hk]; exact hu)
   simp [execOp, hx, this, hk]
 · cases h2
theorem u8_wrap {n : Int} (h : 0 ≤ n ∧ n < 256) : IntKind.u8.wrap n = n := by
 simp [IntKind.wrap, IntKind.bits, IntKind.signed]; omega
theorem v_toU8 {x : Operand} {Sx T : TypeId} {n : Int} (hT : kindB P Sx T .u8 = true) (hx : ev f x = I n) (h : 0 ≤ n ∧ n < 256) : Val P f C ⟨dst, .convert Sx T x, ty, pos, af, gd⟩ (U8 n) := by
 have := v_convK (P := P) (f := f) (C := C) (dst := dst) (ty := ty) (pos := pos) (af := af) (gd := gd) (k := .u8) hT hx
 rwa [u8_wrap h] at this
theorem v_ofU8 {x : Operand} {Sx T : TypeId} {n : Int} (hT : kindB P Sx T .i64 = true) (hx : ev f x = U8 n) (h : 0 ≤ n ∧ n < 256) : Val P f C ⟨dst, .convert Sx T x, ty, pos, af, gd⟩ (I n) := by
 have := v_convK (P := P) (f := f) (C := C) (dst := dst) (ty := ty) (pos := pos) (af := af) (gd := gd) (k := .i64) hT hx
 rwa [show IntKind.i64.wrap n = n from wr_in (by omega) (by omega)] at this
theorem v_u8sub {x y : Operand} {t t' : TypeId} {a b : Int} (hx : ev f x = U8 a) (hy : ev f y = U8 b) (h : 0 ≤ a - b ∧ a - b < 256) : Val P f C ⟨dst, .binOp .sub t x y t', ty, pos, af, gd⟩ (U8 (a - b)) := by
 have := v_subk (P := P) (f := f) (C := C) (dst := dst) (ty := ty) (pos := pos) (af := af) (gd := gd) (t := t) (t' := t') hx hy
 rwa [u8_wrap h] at this
theorem v_strAdd {x y : Operand} {t t' : TypeId} {a b : List Nat} (hx : ev f x = S a) (hy : ev f y = S b) (h : a.length + b.length ≤ 9223372036854775807) : Val P f C ⟨dst, .binOp .add t x y t', ty, pos, af, gd⟩ (S (a ++ b)) := by
 refine ⟨fun w _ => ?_⟩
 have := run_string_add_sum (P := P) (w := w) (bs a) (bs b) (by rw [bs_size, bs_size]; exact h)
 rw [← bs_append] at this
 simp [execOp, hx, hy, eqGuard, binOp, this]
theorem v_strEq {x y : Operand} {t t' : TypeId} {a b : List Nat} (hx : ev f x = S a) (hy : ev f y = S b) (ha : Byt a) (hb : Byt b) : Val P f C ⟨dst, .binOp .eql t x y t', ty, pos, af, gd⟩ (.bool (decide (a = b))) := by
 refine ⟨fun w _ => ?_⟩
 have e : ((bs a).toList == (bs b).toList) = decide (a = b) := by
   rw [bs_toList, bs_toList, Bool.eq_iff_iff, beq_iff_eq, decide_eq_true_iff]
   exact ⟨map_u8_inj ha hb, fun h => by rw [h]⟩
 simp [execOp, hx, hy, eqGuard, binOp, Op.stringOp, e]
theorem v_strNe {x y : Operand} {t t' : TypeId} {a b : List Nat} (hx : ev f x = S a) (hy : ev f y = S b) (ha : Byt a) (hb : Byt b) : Val P f C ⟨dst, .binOp .neq t x y t', ty, pos, af, gd⟩ (.bool (!decide (a = b))) := by
 refine ⟨fun w _ => ?_⟩
 have e : ((bs a).toList == (bs b).toList) = decide (a = b) := by
   rw [bs_toList, bs_toList, Bool.eq_iff_iff, beq_iff_eq, decide_eq_true_iff]
   exact ⟨map_u8_inj ha hb, fun h => by rw [h]⟩
 simp [execOp, hx, hy, eqGuard, binOp, Op.stringOp, e]
theorem v_strLen {x : Operand} {T : TypeId} {ats : Array TypeId} {a : List Nat} (hT : strB P T = true) (ha : ats = #[T]) (hx : ev f x = S a) : Val P f C ⟨dst, .call ⟨.builtin .len, #[x], ats⟩, ty, pos, af, gd⟩ (I a.length) := by
 refine ⟨fun w _ => ?_⟩
 subst ha
 have := run_len_string (P := P) w T ty (bs a) (strB_spec hT)
 simp [execOp, resolve, invoke, builtin, hx, this, bs_size, goInt]
theorem v_strIdx {x y : Operand} {T : TypeId} {k : IntKind} {a : List Nat} {i : Int} {b : Nat} (hT : strB P T = true) (hx : ev f x = S a) (hy : ev f y = .int k i) (h0 : 0 ≤ i) (hi : a[i.toNat]? = some b) (hb : b < 256) : Val P f C ⟨dst, .index T x y, ty, pos, af, gd⟩ (U8 b) := by
 refine ⟨fun w _ => ?_⟩
 obtain ⟨hlt, e⟩ := bs_get hi hb
 have := run_index_string (P := P) w T (bs a) k i (strB_spec hT)
 rw [dif_pos ⟨h0, by omega⟩] at this
 simp [execOp, hx, hy, this, e]
theorem v_strLo {x y : Operand} {T : TypeId} {k : IntKind} {a : List Nat} {i : Int} (hT : strB P T = true) (hx : ev f x = S a) (hy : ev f y = .int k i) (hi : 0 ≤ i ∧ i ≤ a.length) : Val P f C ⟨dst, .slice T x (some y) none none, ty, pos, af, gd⟩ (S (a.drop i.toNat)) := by
 refine ⟨fun w _ => ?_⟩
 have := run_slice_string_from_if (P := P) w T (bs a) k i (strB_spec hT)
 rw [if_pos ⟨hi.1, by rw [bs_size]; exact hi.2⟩, bs_size, bs_extract, List.take_of_length_le (Nat.le_refl _)] at this
 simp [execOp, hx, hy, Instr.sliceAt, run_underlying (strB_spec hT), this]
theorem v_strHi {x y : Operand} {T : TypeId} {k : IntKind} {a : List Nat} {i : Int} (hT : strB P T = true) (hx : ev f x = S a) (hy : ev f y = .int k i) (hi : 0 ≤ i ∧ i ≤ a.length) : Val P f C ⟨dst, .slice T x none (some y) none, ty, pos, af, gd⟩ (S (a.take i.toNat)) := by
 refine ⟨fun w _ => ?_⟩
 have := run_slice_string_to_if (P := P) w T (bs a) k i (strB_spec hT)
 rw [if_pos ⟨hi.1, by rw [bs_size]; exact hi.2⟩, bs_extract, List.drop_zero] at this
 simp [execOp, hx, hy, Instr.sliceAt, run_underlying (strB_spec hT), this]
theorem run_strOf {w : World} {Sx T : TypeId} {b o c : Nat} {l : List Nat} (hS : bytesB P Sx = true) (hT : strB P T = true) (hb : Byt l) (hc : ∀ j n : Nat, l[j]? = some n → w.cell? ⟨b, o + j, none⟩ = some (U8 n)) :
   (convert Sx T (.slice (some ⟨b, o, none⟩) l.length c)).run P w = .ok (S l) w := by
 obtain ⟨e, h1, h2⟩ := bytesB_spec hS
 have := run_convert_bytes_back (P := P) w Sx T e ⟨b, o, none⟩ c (l.map UInt8.ofNat) h1 h2 (strB_spec hT) (fun j hj => by
   have hj' : j < l.length := by simpa using hj
   rw [add_off, hc j l[j] (by simp [hj'])]
   have := hb l[j] (List.getElem_mem hj')
   simp
   omega)
 rw [List.length_map] at this
 exact this
variable {ops : Array Oper} {K : (Nat → Value) → World → Prop} {rest : List Oper} {d : Nat} {w0 : World} {F : Addr → Value → Prop} {L : List (Nat × Obj)}
theorem v_strOf {x : Operand} {Sx T b c t : Nat} {fr : Nat × Nat} {cs : Array Value} {n : Nat} {l : List Nat} (hS : bytesB P Sx = true) (hT : strB P T = true) (hx : ev f x = .slice (some ⟨b, 0, none⟩) n c) (hn : n = l.length) (hl : Look L b (.cells cs t fr)) (hb : Byt l) (hc : ∀ j m : Nat, l[j]? = some m → cs[j]? = some (U8 m)) :
   Val P f (Has w0 F L) ⟨dst, .convert Sx T x, ty, pos, af, gd⟩ (S l) := by
 refine ⟨fun w hw => ?_⟩
 subst hn
 have := run_strOf (P := P) (w := w) (b := b) (o := 0) (c := c) hS hT hb (fun j m hj => by rw [Nat.zero_add, cell_has hw hl]; exact hc j m hj)
 simp [execOp, hx, this]
theorem s_bytesOf {x : Operand} {Sx T : TypeId} {l : List Nat} (hS : strB P Sx = true) (hT : bytesB P T = true) (hx : ev f x = S l) (hb : Byt l)
   (kk : ∀ (b c : Nat) (cs : Array Value) (e : TypeId) (fr : Nat × Nat), l.length ≤ c → (∀ (j m : Nat), l[j]? = some m → cs[j]? = some (U8 m)) → sC P ops K rest (upd f d (.slice (some ⟨b, 0, none⟩) l.length c)) (Has w0 F ((b, .cells cs e fr) :: L))) :
   sC P ops K (⟨some d, .convert Sx T x, ty, pos, af, none⟩ :: rest) f (Has w0 F L) := by
 intro w hw
 obtain ⟨e, h1, h2⟩ := bytesB_spec hT
 have := run_bytes_of_string (P := P) w Sx T e (bs l) (strB_spec hS) h1 h2
 unfold sw
 rw [if_pos wanted_free]
 unfold opk
 have hr : ∀ v w', (convert Sx T (.string (bs l))).run P w = .ok v w' → (execOp (ev f) ⟨some d, .convert Sx T x, ty, pos, af, none⟩).run P w = .ok (.value v) w' := fun v w' h => by
   simp [execOp, hx, h]
 rw [hr _ _ this, bs_size]
 refine kk _ _ _ _ _ (grownCap_ge w _ _ _) (fun j m hj => ?_) _ (hw.drew.alloc _)
 obtain ⟨hjl, e'⟩ := List.getElem?_eq_some_iff.1 hj
 have hm := hb m (by rw [← e']; exact List.getElem_mem hjl)
 unfold bytesRow
 rw [Array.getElem?_append_left (by simp [bs, hjl])]
 simp [bs, hjl, e']
 omega
theorem n_doneT {fn : Func} {n t t2 : Nat} {v : Value} (hr : fn.results = #[.tmp t, .tmp t2]) (ht : t < n) (ht2 : t2 < n) (hv : .tuple #[f t, f t2] = v) :
   nC (retQ P fn n (fun v' w' => v' = v ∧ Bel w0.heap.size w0 w')) .ret f (Has w0 F L) := fun w hw => by
 refine ⟨.tuple #[f t, f t2], ?_, hv, hw.1⟩
 have e : (Fa n f).tmps[t]?.getD undef = f t := by simp [Fa, ht]
 have e2 : (Fa n f).tmps[t2]?.getD undef = f t2 := by simp [Fa, ht2]
 simp [results, hr, e, e2]
theorem n_doneTF {fn : Func} {n t t2 : Nat} {R : (Addr → Value → Prop) → Value → Prop} (hr : fn.results = #[.tmp t, .tmp t2]) (ht : t < n) (ht2 : t2 < n) (hv : ∀ w, Has w0 F L w → R (Fresh w0 w) (.tuple #[f t, f t2])) :
   nC (retQ P fn n (fun v w' => Bel w0.heap.size w0 w' ∧ R (Fresh w0 w') v)) .ret f (Has w0 F L) := fun w hw => by
 refine ⟨.tuple #[f t, f t2], ?_, hw.1, hv w hw⟩
 have e : (Fa n f).tmps[t]?.getD undef = f t := by simp [Fa, ht]
 have e2 : (Fa n f).tmps[t2]?.getD undef = f t2 := by simp [Fa, ht2]
 simp [results, hr, e, e2]
end
def ActS.cells (x : ActS) : Array Value := #[I x.kind, I x.a, I x.b, I x.c, I x.n]
theorem ActS.all1 (x : ActS) : x.cells.all (·.oneCell') = true := by simp [ActS.cells, Value.oneCell']
theorem fill_one {v : Value} {m : Nat} (hs : v.cells.size = m) (z : Array Value) (hz : z.size = m) : Instr.fill (fun i => some (i * m, m)) ((Array.range (1 * m)).map (z[· % z.size]!)) [(0, v)] = some v.cells := by
 have hsz : ((Array.range (1 * m)).map (z[· % z.size]!)).size = m := by simp
 generalize (Array.range (1 * m)).map (z[· % z.size]!) = cs at hsz
 simp only [Instr.fill, Nat.zero_mul, Nat.zero_add]
 rw [if_neg (by simp [hs, hsz])]
 congr 1
 have key : ∀ (l : List Value) (k : Nat) (a : Array Value), ((l.zipIdx k).foldl (fun cs (p : Value × Nat) => cs.setIfInBounds p.2 p.1) a).size = a.size ∧ ∀ j, ((l.zipIdx k).foldl (fun cs (p : Value × Nat) => cs.setIfInBounds p.2 p.1) a)[j]? = if k ≤ j ∧ j < k + l.length ∧ j < a.size then l[j - k]? else a[j]? := by
   intro l
   induction l with
   | nil => intro k a; exact ⟨rfl, fun j => by rw [if_neg (by simp; omega)]; rfl⟩
   | cons x r ih =>
     intro k a
     simp only [List.zipIdx_cons, List.foldl_cons]
     obtain ⟨h1, h2⟩ := ih (k + 1) (a.setIfInBounds k x)
     refine ⟨by rw [h1]; simp, fun j => ?_⟩
     rw [h2 j]
     simp only [Array.size_setIfInBounds, List.length_cons]
     by_cases hj : j = k
     · subst hj
       rw [if_neg (by omega)]
       by_cases hlt : j < a.size
       · rw [if_pos ⟨by omega, by omega, hlt⟩]; simp [hlt]
       · rw [if_neg (by omega)]; simp [hlt]
     · by_cases hc : k + 1 ≤ j ∧ j < k + 1 + r.length ∧ j < a.size
       · rw [if_pos hc, if_pos ⟨by omega, by omega, hc.2.2⟩, show j - k = (j - (k + 1)) + 1 by omega, List.getElem?_cons_succ]
       · rw [if_neg hc, if_neg (by omega), Array.getElem?_setIfInBounds_ne (Ne.symm hj)]
 have := key v.cells.toList 0 cs
 have e : v.cells.zipIdx.foldl (fun cs (p : Value × Nat) => cs.setIfInBounds (0 + p.2) p.1) cs = (v.cells.toList.zipIdx 0).foldl (fun cs (p : Value × Nat) => cs.setIfInBounds p.2 p.1) cs := by
   rw [← Array.foldl_toList]
   simp
 simp only [Nat.zero_add] at e
 rw [e]
 apply Array.ext_getElem?
 intro j
 rw [this.2 j]
 by_cases hj : j < m
 · rw [if_pos ⟨by omega, by simp [hs]; exact hj, by omega⟩]; simp
 · rw [if_neg (by simp [hs]; omega), Array.getElem?_eq_none (by omega), Array.getElem?_eq_none (by omega)]
end Go.Proofs.YtmkboljfbmlebacGreat
namespace Go.Proofs.YtmkboljfbmlebacGreat
open Go.RowKit
set_option linter.unusedSimpArgs false
set_option linter.unusedVariables false
theorem sum_snoc (l : List Nat) (b : Nat) : sumOf (l ++ [b]) = ((sumOf l).1 + b, (sumOf l).2 + ((sumOf l).1 + b)) := by simp [sumOf, List.foldl_append]
theorem sum_step {l : List Nat} {k b : Nat} (h : l[k]? = some b) : sumOf (l.take (k + 1)) = ((sumOf (l.take k)).1 + b, (sumOf (l.take k)).2 + ((sumOf (l.take k)).1 + b)) := by
 rw [List.take_add_one, h]
 exact sum_snoc _ b
theorem sum_bound {l : List Nat} (hb : Byt l) : ∀ k, (sumOf (l.take k)).1 ≤ 1 + 255 * k ∧ (sumOf (l.take k)).2 ≤ k * (1 + 255 * k)
 | 0 => by simp [sumOf]
 | k + 1 => by
   have ih := sum_bound hb k
   cases h : l[k]? with
   | none =>
     rw [List.take_add_one, h]
     simp only [Option.toList_none, List.append_nil]
     refine ⟨by omega, Nat.le_trans ih.2 ?_⟩
     exact Nat.mul_le_mul (by omega) (by omega)
   | some b =>
     have hb' := hb b (List.mem_of_getElem? h)
     rw [sum_step h]
     refine ⟨by simp only; omega, ?_⟩
     simp only
     have e : (k + 1) * (1 + 255 * (k + 1)) = k * (1 + 255 * k) + k * 255 + (1 + 255 * (k + 1)) := by
       rw [Nat.add_mul, Nat.one_mul, show 1 + 255 * (k + 1) = (1 + 255 * k) + 255 by omega, Nat.mul_add]
     omega
theorem tmod_nat (a b : Nat) : ((a : Int)).tmod (b : Int) = ((a % b : Nat) : Int) := by rw [Int.tmod_eq_emod_of_nonneg (by omega)]; omega
theorem tdiv_nat (a b : Nat) : ((a : Int)).tdiv (b : Int) = ((a / b : Nat) : Int) := by rw [Int.tdiv_eq_ediv_of_nonneg (by omega)]; omega
theorem byt_two {a b : Nat} (ha : a < 256) (hb : b < 256) : Byt [a, b] := fun x hx => by simp at hx; omega
theorem byt_one {a : Nat} (ha : a < 256) : Byt [a] := fun x hx => by simp at hx; omega
theorem cells_one (a : Nat) : ∀ j m : Nat, [a][j]? = some m → (#[U8 (a : Int)] : Array Value)[j]? = some (U8 m) := by
 intro j m h
 cases j with
 | zero => simp at h; subst h; rfl
 | succ j => simp at h
theorem cells_two (a b : Nat) : ∀ j m : Nat, [a, b][j]? = some m → (#[U8 (a : Int), U8 (b : Int)] : Array Value)[j]? = some (U8 m) := by
 intro j m h
 match j with
 | 0 => simp at h; subst h; rfl
 | 1 => simp at h; subst h; rfl
 | j + 2 => simp at h
theorem zig_neg {n : Int} (h : n < 0) : -2 * n - 1 = ((zig n : Nat) : Int) := by unfold zig; rw [if_pos h]; omega
theorem zig_pos {n : Int} (h : ¬ n < 0) : 2 * n = ((zig n : Nat) : Int) := by unfold zig; rw [if_neg h]; omega
theorem notedI_iff {n : Int} : notedI n = true ↔ -1073741824 ≤ n ∧ n ≤ 1073741824 := by simp [notedI]
theorem noted_all {x : ActS} (h : noted x = true) : notedI x.kind = true ∧ notedI x.a = true ∧ notedI x.b = true ∧ notedI x.c = true ∧ notedI x.n = true := by
 simp only [noted, Bool.and_eq_true] at h
 exact ⟨h.1.1.1.1, h.1.1.1.2, h.1.1.2, h.1.2, h.2⟩
theorem digs_len5 {n : Int} (h : notedI n = true) : (digs (zig n)).length ≤ 5 := digs_len 4 _ (zig_lt h)
end Go.Proofs.YtmkboljfbmlebacGreat
namespace Go.Proofs.YtmkboljfbmlebacGreat
open Go.RowKit
set_option linter.unusedSimpArgs false
set_option linter.unusedVariables false
def Byte1 (n : Nat) : (Addr → Value → Prop) → Value → Prop := fun F v => ∃ b, v = .slice (some ⟨b, 0, none⟩) 1 1 ∧ F ⟨b, 0, none⟩ (U8 n)
theorem byte1_mono (n : Nat) : Mono (Byte1 n) := by
 rintro F F' v hm ⟨b, h1, h2⟩
 exact ⟨b, h1, hm _ _ h2⟩
section
variable {P : Program} {T : Nat → (Addr → Value → Prop) → Value → Prop} {d : Nat} {ty : TypeId} {pos : String} {af : Array Edge} {gd : Option (Nat × Bool)} {g : Nat → Value} {w : World}
theorem x_build1 {Ts e by_ : Nat} {x : Operand} {n : Nat} (hT : rowB P Ts e 1 by_ = true) (hx : ev g x = U8 n) (ht : ∀ w' v, Byte1 n (At w') v → T d (At w') v) : Ox P T d (.buildSlice Ts 1 #[(0, x)]) ty pos af gd g w := by
 obtain ⟨i, z, hu, hi, h1, h2, h3, h4⟩ := rowB_spec hT
 have hr0 : (Instr.buildSlice Ts 1 #[(0, U8 n)]).run P w = .ok (.slice (some ⟨w.heap.size, 0, none⟩) 1 1) (w.alloc (.cells #[U8 n] e)) := by
   have hz : Instr.fill (fun i => some (i * 1, 1)) ((Array.range (1 * 1)).map (z.cells[· % z.cells.size]!)) [(0, U8 n)] = some #[U8 n] := fill_scalar (v := U8 n) rfl z.cells h4
   simp [Instr.buildSlice, run_underlying hu, sizeOf, typeInfo, zeroValue, hi, h3, newRow, h1]
   simp only [Nat.one_mul] at hz
   have hz' : Instr.fill (fun i => some (i, 1)) (Array.map (fun x => z.cells[x % z.cells.size]!) (Array.range 1)) [(0, U8 ↑n)] = some #[U8 ↑n] := by simpa using hz
   simp [hz']
 unfold Ox opk
 have hr : (execOp (ev g) ⟨some d, .buildSlice Ts 1 #[(0, x)], ty, pos, af, gd⟩).run P w = .ok (.value (.slice (some ⟨w.heap.size, 0, none⟩) 1 1)) (w.alloc (.cells #[U8 n] e)) := by
   simp [execOp, hx, hr0]
 rw [hr]
 refine ⟨_, rfl, (Bel.refl _ _).alloc (Nat.le_refl _) _, fun e' he => ?_⟩
 simp at he; subst he
 refine ht _ _ ⟨w.heap.size, rfl, ?_⟩
 have hh : (w.alloc (.cells #[U8 n] e)).heap[w.heap.size]? = some (.cells #[U8 n] e (0, 0)) := by
   show (w.heap.push _)[w.heap.size]? = _
   simp
 show (w.alloc (.cells #[U8 n] e)).cell? ⟨w.heap.size, 0, none⟩ = _
 rw [cell_of_row _ _ 0 #[U8 n] e (0, 0) hh]
 rfl
theorem x_strOf {Sx Tx b n : Nat} {x : Operand} (hS : bytesB P Sx = true) (hT : strB P Tx = true) (hn : n < 256) (hx : ev g x = .slice (some ⟨b, 0, none⟩) 1 1) (hc : At w ⟨b, 0, none⟩ (U8 n)) (ht : T d (At w) (S [n])) : Ox P T d (.convert Sx Tx x) ty pos af gd g w := by
 have := run_strOf (P := P) (w := w) (b := b) (o := 0) (c := 1) (l := [n]) hS hT (byt_one hn) (fun j m hj => by
   cases j with
   | zero => simp at hj; subst hj; exact hc
   | succ j => simp at hj)
 unfold Ox opk
 have hr : (execOp (ev g) ⟨some d, .convert Sx Tx x, ty, pos, af, gd⟩).run P w = .ok (.value (S [n])) w := by
   have h1 : (convert Sx Tx (.slice (some ⟨b, 0, none⟩) 1 1)).run P w = .ok (S [n]) w := this
   simp [execOp, hx, h1]
 rw [hr]
 exact ⟨_, rfl, Bel.refl _ _, fun e he => by simp at he; subst he; exact ht⟩
end
end Go.Proofs.YtmkboljfbmlebacGreat
namespace Go.Proofs.YtmkboljfbmlebacGreat
open Go.RowKit
set_option linter.unusedSimpArgs false
set_option linter.unusedVariables false
def fText (a : ActS) : List Nat := bif noted a then frameOf a else []
def fErr (a : ActS) : Int := bif noted a then 0 else 3
def frameR (a : ActS) : Value := .tuple #[S (fText a), I (fErr a)]
theorem frameR_yes {a : ActS} (h : noted a = true) : frameR a = .tuple #[S (frameOf a), I 0] := by simp [frameR, fText, fErr, h]
theorem frameR_no {a : ActS} (h : noted a = false) : frameR a = .tuple #[S [], I 3] := by simp [frameR, fText, fErr, h]
theorem fErr_ok {a : ActS} (h : fErr a = 0) : noted a = true := by
 cases hn : noted a
 · simp [fErr, hn] at h
 · rfl
theorem fText_byt (a : ActS) : Byt (fText a) := by
 unfold fText
 cases hn : noted a
 · exact byt_nil
 · exact frame_byte hn
structure Dig (t : List Nat) (j u : Nat) : Prop where
 j6 : j ≤ 6
 ub : u < 128 ^ j
 jl : j ≤ t.length
 rel : undig 7 t = (undig (7 - j) (t.drop j)).map fun p => (u + 128 ^ j * p.1, p.2)
theorem dig_start (t : List Nat) : Dig t 0 0 := ⟨by omega, by decide, by omega, by
 simp only [Nat.sub_zero, List.drop_zero, Nat.pow_zero, Nat.one_mul, Nat.zero_add]
 cases undig 7 t <;> rfl⟩
theorem drop_cons {t : List Nat} {j b : Nat} (h : t[j]? = some b) : t.drop j = b :: t.drop (j + 1) := by
 obtain ⟨hj, e⟩ := List.getElem?_eq_some_iff.1 h
 rw [List.drop_eq_getElem_cons hj, e]
theorem Dig.step {t : List Nat} {j u b : Nat} (o : Dig t j u) (hb : t[j]? = some b) (h1 : 128 ≤ b) (h2 : b < 256) (hj : j < 6) : Dig t (j + 1) (u + (b - 128) * 128 ^ j) := by
 refine ⟨by omega, ?_, (List.getElem?_eq_some_iff.1 hb).1, ?_⟩
 · have := o.ub
   have h3 : (b - 128) * 128 ^ j ≤ 127 * 128 ^ j := Nat.mul_le_mul_right _ (by omega)
   rw [Nat.pow_succ]; omega
 · rw [o.rel, drop_cons hb, show 7 - j = (7 - (j + 1)) + 1 by omega, undig, if_neg (by omega)]
   cases undig (7 - (j + 1)) (t.drop (j + 1)) with
   | none => rfl
   | some p =>
     simp only [Option.map_some]
     congr 2
     rw [Nat.mul_add, Nat.pow_succ, ← Nat.mul_assoc, Nat.mul_comm (128 ^ j) (b - 128), Nat.add_assoc]
theorem Dig.stop {t : List Nat} {j u : Nat} (o : Dig t j u) (h : t.length ≤ j) : undig 7 t = none := by
 rw [o.rel, List.drop_eq_nil_of_le h, show 7 - j = (6 - j) + 1 by have := o.j6; omega]
 rfl
theorem Dig.high {t : List Nat} {j u b : Nat} (o : Dig t j u) (hb : t[j]? = some b) (h1 : 128 ≤ b) (hj : ¬ j < 6) : undig 7 t = none := by
 have : j = 6 := by have := o.j6; omega
 subst this
 rw [o.rel, drop_cons hb, show 7 - 6 = 0 + 1 by omega, undig, if_neg (by omega)]
 rfl
theorem Dig.last {t : List Nat} {j u b : Nat} (o : Dig t j u) (hb : t[j]? = some b) (h1 : b < 128) : undig 7 t = some (u + b * 128 ^ j, t.drop (j + 1)) ∧ u + b * 128 ^ j < 128 ^ 7 := by
 have h6 := o.j6
 refine ⟨?_, ?_⟩
 · rw [o.rel, drop_cons hb, show 7 - j = (6 - j) + 1 by omega, undig, if_pos h1, Option.map_some, Nat.mul_comm (128 ^ j) b]
 · have := o.ub
   have h3 : b * 128 ^ j ≤ 127 * 128 ^ j := Nat.mul_le_mul_right _ (by omega)
   have h4 : 128 ^ (j + 1) ≤ 128 ^ 7 := Nat.pow_le_pow_right (by omega) (by omega)
   rw [Nat.pow_succ] at h4
   omega
theorem pow_lt40 {j : Nat} (h : j ≤ 6) : ((((128 ^ j : Nat) : Int)) < 1099511627776 ↔ j < 6) := by
 have : j = 0 ∨ j = 1 ∨ j = 2 ∨ j = 3 ∨ j = 4 ∨ j = 5 ∨ j = 6 := by omega
 rcases this with rfl | rfl | rfl | rfl | rfl | rfl | rfl <;> simp
theorem pow_le42 {j : Nat} (h : j ≤ 6) : 128 ^ j ≤ 4398046511104 ∧ 1 ≤ 128 ^ j := by
 have : j = 0 ∨ j = 1 ∨ j = 2 ∨ j = 3 ∨ j = 4 ∨ j = 5 ∨ j = 6 := by omega
 rcases this with rfl | rfl | rfl | rfl | rfl | rfl | rfl <;> simp
def nums : Nat → List Nat → Option (List Nat × List Nat)
 | 0, l => some ([], l)
 | k + 1, l => match nums k l with
   | none => none
   | some (us, t) => (undig 7 t).map fun p => (us ++ [p.1], p.2)
theorem nums_step {k : Nat} {l us t : List Nat} (h : nums k l = some (us, t)) : nums (k + 1) l = (undig 7 t).map fun p => (us ++ [p.1], p.2) := by simp only [nums, h]
theorem nums_none {k : Nat} {l : List Nat} (h : nums k l = none) : ∀ m, nums (k + m) l = none
 | 0 => h
 | m + 1 => by
   have := nums_none h m
   rw [show k + (m + 1) = (k + m) + 1 by omega]
   simp only [nums, this]
def actOf (us : List Nat) : ActS := ⟨zag (us.getD 0 0), zag (us.getD 1 0), zag (us.getD 2 0), zag (us.getD 3 0), zag (us.getD 4 0)⟩
theorem nums_body {x : ActS} (h : noted x = true) (r : List Nat) : nums 5 (bodyOf x ++ r) = some ([zig x.kind, zig x.a, zig x.b, zig x.c, zig x.n], r) := by
 obtain ⟨h1, h2, h3, h4, h5⟩ := noted_all h
 have e1 := undig_digs 6 _ (digs (zig x.a) ++ (digs (zig x.b) ++ (digs (zig x.c) ++ (digs (zig x.n) ++ r)))) (zig_lt7 h1)
 have e2 := undig_digs 6 _ (digs (zig x.b) ++ (digs (zig x.c) ++ (digs (zig x.n) ++ r))) (zig_lt7 h2)
 have e3 := undig_digs 6 _ (digs (zig x.c) ++ (digs (zig x.n) ++ r)) (zig_lt7 h3)
 have e4 := undig_digs 6 _ (digs (zig x.n) ++ r) (zig_lt7 h4)
 have e5 := undig_digs 6 _ r (zig_lt7 h5)
 simp only [nums, bodyOf, List.append_assoc]
 simp only [e1, e2, e3, e4, e5, Option.map_some]
 rfl
theorem actOf_zig (x : ActS) : actOf [zig x.kind, zig x.a, zig x.b, zig x.c, zig x.n] = x := by simp [actOf, zag_zig]
theorem stands_body {x : ActS} {k0 : Nat} {r : List Nat} (h : Stands x (k0 :: r)) : k0 = (bodyOf x).length ∧ r.take k0 = bodyOf x ∧ k0 + 3 ≤ (k0 :: r).length ∧ (k0 :: r).take (k0 + 3) = frameOf x := by
 obtain ⟨nx, s, hs⟩ := h
 have hl := frame_len x
 have e : k0 = (bodyOf x).length ∧ r = bodyOf x ++ ([(sumOf (bodyOf x)).1 % 251, (sumOf (bodyOf x)).2 % 251] ++ s) := by
   simp only [frameOf, List.cons_append, List.cons.injEq] at hs
   exact ⟨hs.1.symm, by rw [← hs.2]; simp⟩
 refine ⟨e.1, by rw [e.2, e.1]; exact List.take_left, ?_, ?_⟩
 · rw [← hs, List.length_append]; omega
 · rw [← hs, show k0 + 3 = (frameOf x).length by omega]; exact List.take_left
theorem read_short {k0 : Nat} {r : List Nat} (h : (k0 :: r).length < k0 + 3) : first? (k0 :: r) = none := (first_none _).2 fun x hx => by
 have := (stands_body hx).2.2.1; omega
theorem read_broken {k0 k : Nat} {r us t : List Nat} (hk : k < 5) (hn : nums k (r.take k0) = some (us, t)) (hu : undig 7 t = none) : first? (k0 :: r) = none := (first_none _).2 fun x hx => by
 obtain ⟨_, h2, _, _⟩ := stands_body hx
 have h1 : nums (k + 1) (r.take k0) = none := by rw [nums_step hn, hu]; rfl
 have h5 := nums_none h1 (4 - k)
 rw [show k + 1 + (4 - k) = 5 by omega, h2] at h5
 have := nums_body hx.1 []
 rw [List.append_nil] at this
 rw [this] at h5; cases h5
theorem read_other {k0 : Nat} {r us t : List Nat} (hn : nums 5 (r.take k0) = some (us, t)) (hno : ¬ (noted (actOf us) = true ∧ frameOf (actOf us) = (k0 :: r).take (k0 + 3))) : first? (k0 :: r) = none := (first_none _).2 fun x hx => by
 obtain ⟨_, h2, _, h4⟩ := stands_body hx
 have := nums_body hx.1 []
 rw [List.append_nil, ← h2, hn] at this
 simp at this
 apply hno
 rw [this.1, actOf_zig]
 exact ⟨hx.1, h4.symm⟩
theorem read_this {k0 : Nat} {r us : List Nat} (h1 : noted (actOf us) = true) (h2 : frameOf (actOf us) = (k0 :: r).take (k0 + 3)) : first? (k0 :: r) = some (actOf us) := (first_iff _ _).2 ⟨h1, by rw [h2]; exact List.take_prefix _ _⟩
def vnum (us : List Nat) (i : Nat) : Int := if i < us.length then zag (us.getD i 0) else 0
def vrow (us : List Nat) : Array Value := Array.ofFn (n := 5) fun i => I (vnum us i.val)
theorem vrow_size (us : List Nat) : (vrow us).size = 5 := by simp [vrow]
theorem vrow_at (us : List Nat) (i : Nat) (hi : i < 5) : (vrow us)[0 + ((i : Nat) : Int).toNat * 1]? = some (I (vnum us i)) := by
 have e : 0 + ((i : Nat) : Int).toNat * 1 = i := by omega
 rw [e]
 simp [vrow, hi]
theorem vrow_set {us : List Nat} {u k : Nat} (hk : us.length = k) (h5 : k < 5) : (vrow us).setIfInBounds (0 + ((k : Nat) : Int).toNat * 1) (I (zag u)) = vrow (us ++ [u]) := by
 have e : 0 + ((k : Nat) : Int).toNat * 1 = k := by omega
 rw [e]
 unfold vrow
 exact setq (fun i => I (vnum us i)) (fun i => I (vnum (us ++ [u]) i)) (fun i hi => by
   unfold vnum
   rw [List.length_append]
   simp only [List.length_cons, List.length_nil]
   by_cases h : i = k
   · subst h
     rw [if_pos (by omega), if_pos rfl]
     congr 2
     rw [List.getD_eq_getElem?_getD, List.getElem?_append_right (by omega), hk]
     simp
   · rw [if_neg h]
     by_cases h2 : i < us.length
     · rw [if_pos (by omega), if_pos h2]
       congr 2
       rw [List.getD_eq_getElem?_getD, List.getD_eq_getElem?_getD, List.getElem?_append_left h2]
     · rw [if_neg (by omega), if_neg h2])
theorem vrow_set2 {us : List Nat} {u k : Nat} {x : Int} (hk : us.length = k) (h5 : k < 5) : ((vrow us).setIfInBounds (0 + ((k : Nat) : Int).toNat * 1) (I x)).setIfInBounds (0 + ((k : Nat) : Int).toNat * 1) (I (zag u)) = vrow (us ++ [u]) := by
 rw [← vrow_set hk h5]
 apply Array.ext_getElem?
 intro i
 simp only [Array.getElem?_setIfInBounds, Array.size_setIfInBounds]
 split <;> rfl
def act5 (us : List Nat) : ActS := ⟨vnum us 0, vnum us 1, vnum us 2, vnum us 3, vnum us 4⟩
theorem act5_of {us : List Nat} (h : us.length = 5) : act5 us = actOf us := by simp [act5, actOf, vnum, h]
theorem zag_even {u : Nat} (h : ¬ ((u % 2 : Nat) : Int) = 1) : ((u / 2 : Nat) : Int) = zag u := by unfold zag; rw [if_neg (by omega)]
theorem zag_odd {u : Nat} (h : ((u % 2 : Nat) : Int) = 1) : (-(u : Int)).tdiv 2 - 1 = zag u := by
 unfold zag
 rw [if_pos (by omega), Int.neg_tdiv, show ((u : Int)).tdiv 2 = ((u / 2 : Nat) : Int) from tdiv_nat u 2]
theorem zag_odd' {u : Nat} (h : ((u % 2 : Nat) : Int) = 1) : -((u / 2 : Nat) : Int) - 1 = zag u := by unfold zag; rw [if_pos (by omega)]
theorem neg_half (u : Nat) : (-(u : Int)).tdiv 2 = -((u / 2 : Nat) : Int) := by rw [Int.neg_tdiv, show ((u : Int)).tdiv 2 = ((u / 2 : Nat) : Int) from tdiv_nat u 2]
theorem dig_cast {b u j : Nat} (h : 128 ≤ b) : (u : Int) + ((b : Int) - 128) * ((128 ^ j : Nat) : Int) = ((u + (b - 128) * 128 ^ j : Nat) : Int) := by
 rw [show (b : Int) - 128 = ((b - 128 : Nat) : Int) by omega]
 simp only [Int.natCast_add, Int.natCast_mul]
theorem last_cast (b u j : Nat) : (u : Int) + (b : Int) * ((128 ^ j : Nat) : Int) = ((u + b * 128 ^ j : Nat) : Int) := by simp only [Int.natCast_add, Int.natCast_mul]
theorem mul_fits {a : Int} {p : Nat} (ha : 0 ≤ a ∧ a < 256) (hp : p ≤ 4398046511104) : 0 ≤ a * (p : Int) ∧ a * (p : Int) ≤ 1125899906842624 := by
 refine ⟨Int.mul_nonneg ha.1 (by omega), ?_⟩
 have : a * (p : Int) ≤ 256 * 4398046511104 := Int.mul_le_mul (by omega) (by omega) (by omega) (by omega)
 omega
structure PG where
 k : Nat
 us : List Nat
 pos : Nat
structure PgOk (k0 : Nat) (B : List Nat) (t : PG) : Prop where
 k5 : t.k ≤ 5
 ul : t.us.length = t.k
 p1 : 1 ≤ t.pos ∧ t.pos ≤ k0 + 1
 run : nums t.k B = some (t.us, B.drop (t.pos - 1))
theorem PgOk.next {k0 : Nat} {B : List Nat} {t : PG} (o : PgOk k0 B t) (hB : B.length = k0) (hk : t.k < 5) {j u b : Nat} (hd : Dig (B.drop (t.pos - 1)) j u) (hb : (B.drop (t.pos - 1))[j]? = some b) (h1 : b < 128) : PgOk k0 B ⟨t.k + 1, t.us ++ [u + b * 128 ^ j], t.pos + j + 1⟩ := by
 have hl := (List.getElem?_eq_some_iff.1 hb).1
 rw [List.length_drop] at hl
 have hp := o.p1
 refine ⟨hk, by simp [o.ul], by simp only; omega, ?_⟩
 rw [nums_step o.run, (hd.last hb h1).1, Option.map_some, List.drop_drop, show t.pos - 1 + (j + 1) = t.pos + j + 1 - 1 by omega]
theorem PgOk.broken {k0 : Nat} {r : List Nat} {t : PG} (o : PgOk k0 (r.take k0) t) (hk : t.k < 5) (hu : undig 7 ((r.take k0).drop (t.pos - 1)) = none) : first? (k0 :: r) = none := read_broken hk o.run hu
def flatA (xs : List ActS) : List Value := xs.flatMap fun x => x.cells.toList
def ActsIn (F : Addr → Value → Prop) (v : Value) (xs : List ActS) : Prop := ∃ a c, v = .slice a xs.length c ∧ xs.length ≤ c ∧ (xs = [] ∨ ∃ b o, a = some ⟨b, o, none⟩ ∧ ∀ (j : Nat) (x : ActS), xs[j]? = some x → ∀ (k : Nat) (v : Value), x.cells[k]? = some v → F ⟨b, o + j * 5 + k, none⟩ v)
theorem flatA_get : ∀ (xs : List ActS) (j : Nat) (x : ActS), xs[j]? = some x → ∀ (k : Nat) (v : Value), x.cells[k]? = some v → (flatA xs)[j * 5 + k]? = some v
 | [], j, x, h, _, _, _ => by simp at h
 | q :: r, j, x, h, k, v, hv => by
   have hk : k < 5 := by
     rcases Nat.lt_or_ge k 5 with h | h
     · exact h
     · rw [Array.getElem?_eq_none (by simpa [ActS.cells] using h)] at hv; cases hv
   have hl : q.cells.toList.length = 5 := rfl
   cases j with
   | zero =>
     simp at h; subst h
     simp only [flatA, List.flatMap_cons, Nat.zero_mul, Nat.zero_add]
     rw [List.getElem?_append_left (by rw [hl]; exact hk)]
     simpa using hv
   | succ j =>
     simp only [List.getElem?_cons_succ] at h
     simp only [flatA, List.flatMap_cons]
     rw [List.getElem?_append_right (by rw [hl]; omega), hl, show (j + 1) * 5 + k - 5 = j * 5 + k by omega]
     exact flatA_get r j x h k v hv
theorem acts_of_list {F : Addr → Value → Prop} {e : Nat} {v : Value} {xs : List ActS} {E : List (Nat × Obj)} (h : ListE e 5 v xs.length (flatA xs) E) (hk : Knows F E) : ActsIn F v xs := by
 rcases h.2 with ⟨rfl, h2, rfl⟩ | ⟨g, cap, cur, rfl, rfl, h3, h4, h5, h6⟩
 · have : xs = [] := List.eq_nil_of_length_eq_zero h2
   subst this
   exact ⟨none, 0, rfl, Nat.le_refl _, .inl rfl⟩
 · refine ⟨_, _, rfl, h3, .inr ⟨g, 0, rfl, fun j x hj k v hv => ?_⟩⟩
   rw [Nat.zero_add]
   refine hk g cur e (0, 0) (by simp) _ _ ?_
   have e1 := flatA_get xs j x hj k v hv
   rw [← h6, List.getElem?_take] at e1
   split at e1
   · simpa using e1
   · cases e1
theorem acts_mono (xs : List ActS) : Mono (fun F v => ActsIn F v xs) := by
 rintro F F' v hm ⟨a, c, h1, h2, h3⟩
 refine ⟨a, c, h1, h2, ?_⟩
 rcases h3 with h3 | ⟨b, o, h3, h4⟩
 · exact .inl h3
 · exact .inr ⟨b, o, h3, fun j x hj k v hv => hm _ _ (h4 j x hj k v hv)⟩
def ReadF (l : List Nat) (F : Addr → Value → Prop) (v : Value) : Prop := ∃ v1, v = .tuple #[v1, I (bytesOf (readM l)).length] ∧ ActsIn F v1 (readM l)
theorem readF_mono (l : List Nat) : Mono (ReadF l) := by
 rintro F F' v hm ⟨v1, h1, h2⟩
 exact ⟨v1, h1, acts_mono _ _ _ _ hm h2⟩
structure RB where
 xs : List ActS
 v : Value
 E : List (Nat × Obj)
structure RbOk (e : Nat) (l : List Nat) (t : RB) : Prop where
 list : ListE e 5 t.v t.xs.length (flatA t.xs) t.E
 front : (bytesOf t.xs).length ≤ l.length
 read : readM l = t.xs ++ readM (l.drop (bytesOf t.xs).length)
 eight : t.xs.length * 3 ≤ (bytesOf t.xs).length
theorem RbOk.done {e : Nat} {l : List Nat} {t : RB} (o : RbOk e l t) (h : first? (l.drop (bytesOf t.xs).length) = none) {F : Addr → Value → Prop} (hk : Knows F t.E) : ReadF l F (.tuple #[t.v, I (bytesOf t.xs).length]) := by
 have e1 := o.read
 rw [readM_none h, List.append_nil] at e1
 unfold ReadF
 rw [e1]
 exact ⟨_, rfl, acts_of_list o.list hk⟩
theorem RbOk.next {e : Nat} {l : List Nat} {t : RB} (o : RbOk e l t) {x : ActS} (h : first? (l.drop (bytesOf t.xs).length) = some x) {v' : Value} {E' : List (Nat × Obj)} (hl : ListE e 5 v' (t.xs.length + 1) (flatA t.xs ++ x.cells.toList) E') : RbOk e l ⟨t.xs ++ [x], v', E'⟩ ∧ (bytesOf (t.xs ++ [x])).length = (bytesOf t.xs).length + (bodyOf x).length + 3 := by
 have hb : bytesOf (t.xs ++ [x]) = bytesOf t.xs ++ frameOf x := by simp [bytesOf]
 have hfl := frame_len x
 have hs := ((first_iff _ _).1 h).2.length_le
 rw [List.length_drop] at hs
 have hfr := o.front
 have h8 := o.eight
 refine ⟨⟨by simpa [flatA] using hl, ?_, ?_, ?_⟩, by rw [hb, List.length_append]; omega⟩
 · simp only; rw [hb, List.length_append]; omega
 · simp only
   rw [o.read, readM_some h, hb, List.length_append, List.append_assoc, List.drop_drop]
   rfl
 · simp only; rw [hb, List.length_append, List.length_append]; simp only [List.length_cons, List.length_nil]; omega
end Go.Proofs.YtmkboljfbmlebacGreat
