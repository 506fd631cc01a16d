/- The law TopGood. Condition: a bank that keeps its contracts. -/
import Derived.Test.YtmkboljfbmlebabQ13
import Derived.Test.YtmkboljfbmlebabQxW80
namespace Go.Proofs.Ytmkboljfbmlebab
open Go.RowKit
set_option linter.unusedSimpArgs false
set_option linter.unusedVariables false
set_option maxRecDepth 100000
attribute [local irreducible] cC sC nC rC qw
set_option maxHeartbeats 1000000 in
theorem look_TopGood (bk : BankOk) (F : Addr → Value → Prop) (s : BankS) (r : RepS) (x : ActS) (b : Nat) (B E : List (Nat × Obj)) (a1 : Option Addr) (l1 c1 : Nat) (hg : BGood s) (hr : bk.Rep F b B s) : GivesW Try.prog 21 [.pointer (some ⟨b, 0, none⟩), .agg x.cells, repOf r (.slice a1 l1 c1)] F (E ++ B) (fun F2 v B' => v = .bool true ∧ B' = B) := by
 refine givesW_of Try.func21 rfl Try.ntmps21 (by simp) (fun w K => ?_)
 refine c_weak (fun w1 hw => show Has w F (E ++ (B ++ K)) w1 from (by rw [← List.append_assoc]; exact hw)) ?_
 refine r_seq (by kernel_rfl) ?_
 refine s_box (v := .agg _) rfl (fun b4 => ?_)
 refine s_box (v := .agg _) rfl (fun b5 => ?_)
 refine s_val (v_assign (v := .bool _) rfl) ?_
 refine s_nil ?_
 refine r_seq (by kernel_rfl) ?_
 refine s_val (v_move (v := .pointer _) rfl) ?_
 refine s_callF (by kernel_rfl) (fun w hw => bk.house w b B _ hg (bk.mono hr hw.at) (lies_of hw (fun _ hq => (List.mem_cons_of_mem _ (List.mem_cons_of_mem _ (List.mem_append_right _ (List.mem_append_left _ hq))))))) (fun F11 v11 E11 hF11 hK11 hR11 => ?_)
 obtain ⟨h11, rfl, hc11, ho11⟩ := hR11
 have hp11 := ho11.known hK11
 have hlc11 := ho11.2.1
 have hl2411 : h11.pl ≤ 24 := by have := (bgood_inv hg).1.len; have := hp11.1; omega
 refine s_alloc (z := .agg zeroH.cells) (by kernel_rfl) (fun b7 => ?_)
 refine s_storeA (m := 42) (by kernel_rfl) rfl rfl .here (H.size _) (H.size _) (H.all1 _) ?_
 refine s_nil ?_
 refine c_seq ?_
 have hgood := bgood_good hg hc11
 have hsa := (good_pays hgood).2.1
 refine r_seq (by kernel_rfl) ?_
 refine s_val (v_move (v := .int .i64 _) rfl) ?_
 refine s_nil ?_
 refine c_block ?_
 refine c_loop (σ := KF) (fun (t : KF) f => ∃ g, (t.k ≤ 4 ∧ More F11 t.F) ∧ f = (upd (upd (upd g 0 (.pointer (some ⟨b, 0, none⟩))) 7 (.pointer (some ⟨b7, 0, none⟩))) 12 (I t.k))) (fun (t : KF) => Has w t.F ((b7, .cells h11.cells 41) :: (b5, .cells ((repC r.code r.n (.slice a1 l1 c1))) 31) :: (b4, .cells x.cells 23) :: (E ++ (B ++ K)))) (fun (t : KF) => 4 - t.k) ⟨0, F11⟩ ⟨_, ⟨Nat.zero_le _, fun _ _ h => h⟩, live3 rfl rfl rfl⟩ (fun w hw => hw) ?_
 rintro t _ ⟨g, ⟨hkl, hmo⟩, rfl⟩
 refine r_seq (by kernel_rfl) ?_
 refine s_val (v_lss (k := .i64) rfl rfl) ?_
 refine s_nil ?_
 refine c_seq ?_
 refine c_condR rfl rfl (fun h13 => ?_) (fun h13 => ?_)
 · refine c_exit ?_
   refine n_exit ?_
   refine n_exit ?_
   refine n_bhere ?_
   refine n_then ?_
   refine r_seq (by kernel_rfl) ?_
   refine s_val (v_loadA (m := 42) (by kernel_rfl) rfl .here (H.size _)) ?_
   refine s_call (by kernel_rfl) (fun w hw => g_Good _ s.ps w ((hp11.mono hmo).at hw)) ?_
   refine s_val (v_assign (v := .bool _) rfl) ?_
   refine s_nil ?_
   refine c_ret ?_
   exact n_doneW (B' := B) rfl (by decide) (fun a v h => hmo a v (hF11 a v h)) (fun w1 hw => hw.sub (List.Sublist.cons _ (List.Sublist.cons _ (List.Sublist.cons _ (List.Sublist.trans (List.Sublist.refl _) (List.sublist_append_right _ _)))))) ⟨congrArg Value.bool hgood, rfl⟩
 have hkk := of_decide_eq_true h13
 have hki : 0 ≤ (t.k : Int) ∧ (t.k : Int) < 4 := ⟨by omega, by omega⟩
 refine c_skip ?_
 refine n_then ?_
 refine c_seq ?_
 refine c_block ?_
 refine r_seq (by kernel_rfl) ?_
 refine s_val (v_move (v := .int .i64 _) rfl) ?_
 refine s_val (v_assign (v := .int .i64 _) rfl) ?_
 refine s_nil ?_
 refine r_seq (by kernel_rfl) ?_
 refine s_val (v_loadA (m := 42) (by kernel_rfl) rfl .here (H.size _)) ?_
 refine s_val (v_move (v := .int .i64 _) rfl) ?_
 refine s_callG (by kernel_rfl) (room_mono _) (fun w hw => (g_Of h11 s.ps t.k w ((hp11.mono hmo).at hw) (by omega) hlc11 hsa (.inl hki)).toF (fun F v E hk hl => room_of_list hl hk)) (fun F17 v17 hF17 hR17 => ?_)
 obtain ⟨a17, c17, rfl, hc17, ia17⟩ := hR17
 replace ia17 := ia17.mono (more_young _ _)
 refine s_val (v_assign (v := .slice _ _ _) rfl) ?_
 refine s_nil ?_
 refine d_seq (by kernel_rfl) (by kernel_rfl) (fun w hw => hw.drew) (by kernel_rfl) ?_
 refine q_val (v_move (v := .slice _ _ _) rfl) ?_
 refine q_val (v_lenS (T := 29) (m := 1) (by kernel_rfl) rfl rfl) ?_
 refine q_val (v_gtr (k := .i64) rfl rfl) ?_
 refine q_val (v_move (v := .bool _) rfl) ?_
 refine q_splitR (s := 21) rfl (fun h21 => ?_) (fun h21 => ?_)
 · refine q_pass rfl rfl h21 ?_
   refine q_pass rfl rfl h21 ?_
   refine q_pass rfl rfl h21 ?_
   refine q_pass rfl rfl h21 ?_
   refine q_pass rfl rfl h21 ?_
   refine q_pass rfl rfl h21 ?_
   refine q_pass rfl rfl h21 ?_
   refine q_pass rfl rfl h21 ?_
   refine q_pass rfl rfl h21 ?_
   refine q_pass rfl rfl h21 ?_
   refine q_pass rfl rfl h21 ?_
   refine q_pass rfl rfl h21 ?_
   refine q_pass rfl rfl h21 ?_
   refine q_pass rfl rfl h21 ?_
   refine q_pass rfl rfl h21 ?_
   refine q_pass rfl rfl h21 ?_
   refine q_pass rfl rfl h21 ?_
   refine q_pass rfl rfl h21 ?_
   refine q_pass rfl rfl h21 ?_
   refine q_val (v_pickF (v := .bool _) rfl h21 rfl) ?_
   refine q_nil ?_
   refine c_condFh rfl rfl rfl ?_
   refine c_skip ?_
   refine n_bnormal ?_
   refine n_then ?_
   refine r_list (by kernel_rfl) ?_
   refine s_val (v_add rfl rfl (by omega)) ?_
   refine s_val (v_move (v := .int .i64 _) rfl) ?_
   refine s_end ?_
   refine n_round (s := t) ⟨t.k + 1, F17⟩ ⟨_, ⟨by dsimp only; omega, fun a v h => hF17 a v (hmo a v h)⟩, live3 rfl rfl rfl⟩ (fun _ hw => hw) (by dsimp only; omega)
 have hk0 := of_decide_eq_true h21
 obtain ⟨bq, oq, i, haq, hi, hfi⟩ := ia17.get (j := 0) (by omega)
 obtain ⟨p, hst, hpi, hsta, hsrc⟩ := (queueM_mine (List.mem_of_getElem? hi)).settles
 have hi0 := (settles_spec hst).1
 have hil : i.toNat < h11.pl := by have := (List.getElem?_eq_some_iff.1 hpi).1; have := hp11.1; omega
 obtain ⟨bp, op, hpa, hc⟩ := hp11.some hil
 have hmay : mayM h11 t.k p.dst p.amt = false := by
   have e := look_may ((bgood_inv hg).2 t.k (by omega)) hi hpi ((bgood_inv hg).1.house (by omega))
   rw [← hc11] at e; exact e
 refine q_want rfl rfl h21 ?_
 refine q_val (v_loadA (m := 42) (by kernel_rfl) rfl .here (H.size _)) ?_
 refine q_want rfl rfl h21 ?_
 refine q_val (v_move (v := .int .i64 _) rfl) ?_
 refine q_want rfl rfl h21 ?_
 refine q_val (v_field (fo := 40) (by kernel_rfl) rfl) ?_
 refine q_want rfl rfl h21 ?_
 refine q_val (v_load1 (v := .slice _ _ _) (by kernel_rfl) rfl .here (H.at_pays _)) ?_
 refine q_want rfl rfl h21 ?_
 refine q_val (v_move (v := .slice _ _ _) rfl) ?_
 refine q_want rfl rfl h21 ?_
 refine q_val (v_idxS (size := 1) (k := .i64) (by kernel_rfl) (congrArg (fun a => Value.slice a (queueM s.ps t.k).length c17) haq) rfl ⟨by decide, by omega⟩) ?_
 refine q_want rfl rfl h21 ?_
 refine q_val (v_load1o (v := I i) (by kernel_rfl) rfl (by simpa using hfi)) ?_
 refine q_want rfl rfl h21 ?_
 refine q_val (v_idxS (size := 6) (k := .i64) (by kernel_rfl) (congrArg (fun a => Value.slice a h11.pl h11.pc) hpa) rfl ⟨by omega, by omega⟩) ?_
 refine q_want rfl rfl h21 ?_
 refine q_val (v_field (fo := 1) (by kernel_rfl) rfl) ?_
 refine q_want rfl rfl h21 ?_
 refine q_val (v_load1o (by kernel_rfl) rfl (hF17 _ _ (hmo _ _ (hc _ p hpi 1 _ rfl)))) ?_
 refine q_want rfl rfl h21 ?_
 refine q_val (v_field (fo := 40) (by kernel_rfl) rfl) ?_
 refine q_want rfl rfl h21 ?_
 refine q_val (v_load1 (v := .slice _ _ _) (by kernel_rfl) rfl .here (H.at_pays _)) ?_
 refine q_want rfl rfl h21 ?_
 refine q_val (v_move (v := .slice _ _ _) rfl) ?_
 refine q_want rfl rfl h21 ?_
 refine q_val (v_idxS (size := 1) (k := .i64) (by kernel_rfl) (congrArg (fun a => Value.slice a (queueM s.ps t.k).length c17) haq) rfl ⟨by decide, by omega⟩) ?_
 refine q_want rfl rfl h21 ?_
 refine q_val (v_load1o (v := I i) (by kernel_rfl) rfl (by simpa using hfi)) ?_
 refine q_want rfl rfl h21 ?_
 refine q_val (v_idxS (size := 6) (k := .i64) (by kernel_rfl) (congrArg (fun a => Value.slice a h11.pl h11.pc) hpa) rfl ⟨by omega, by omega⟩) ?_
 refine q_want rfl rfl h21 ?_
 refine q_val (v_field (fo := 2) (by kernel_rfl) rfl) ?_
 refine q_want rfl rfl h21 ?_
 refine q_val (v_load1o (by kernel_rfl) rfl (hF17 _ _ (hmo _ _ (hc _ p hpi 2 _ rfl)))) ?_
 refine q_want rfl rfl h21 ?_
 refine q_call (by kernel_rfl) (fun w hw => g_May _ _ _ _ w) ?_
 refine q_val (v_pickT (v := .bool _) rfl h21 rfl) ?_
 refine q_nil ?_
 refine c_condFh rfl rfl hmay ?_
 refine c_skip ?_
 refine n_bnormal ?_
 refine n_then ?_
 refine r_list (by kernel_rfl) ?_
 refine s_val (v_add rfl rfl (by omega)) ?_
 refine s_val (v_move (v := .int .i64 _) rfl) ?_
 refine s_end ?_
 refine n_round (s := t) ⟨t.k + 1, F17⟩ ⟨_, ⟨by dsimp only; omega, fun a v h => hF17 a v (hmo a v h)⟩, live3 rfl rfl rfl⟩ (fun _ hw => hw) (by dsimp only; omega)
theorem law_TopGood (bk : BankOk) (a0 : Option Addr) (c0 : Nat) (xs : List ActS) (w : World) (hx : ActsAt (At w) a0 xs) (hlx : xs.length ≤ 9223372036854775807) : Gives Try.prog 4 [.slice a0 xs.length c0] w (.bool true) := by
 refine gives_of Try.func4 rfl Try.ntmps4 (by simp) ?_
 refine r_seq (by kernel_rfl) ?_
 refine s_val (v_assign (v := .bool _) rfl) ?_
 refine s_nil ?_
 refine r_seq (by kernel_rfl) ?_
 refine s_val (v_move (v := .slice _ _ _) rfl) ?_
 refine s_callW (B := []) (by kernel_rfl) (g_play bk (fun _ : Unit => []) (fun _ _ _ _ => True) a0 c0 xs 21 [] (At w) () hx hlx trivial (fun _ _ => trivial) (by kernel_rfl) (looks_plain bk xs 21 (At w) (fun F1 s r x b B E a1 l1 c1 hg hr => look_TopGood bk F1 s r x b B E a1 l1 c1 hg hr))) (fun F7 v7 B70 hF7 hR7 => ?_)
 obtain ⟨b7, B7, c7, rfl, rfl, hr7, hg7, hJ7⟩ := hR7
 refine s_val (v_move (v := .tuple _) rfl) ?_
 refine s_val (v_extract rfl rfl) ?_
 refine s_val (v_extract rfl rfl) ?_
 refine s_val (v_assign (v := .pointer _) rfl) ?_
 refine s_val (v_assign (v := .bool _) rfl) ?_
 refine s_nil ?_
 refine r_seq (by kernel_rfl) ?_
 refine s_val (v_move (v := .bool _) rfl) ?_
 refine s_val (v_assign (v := .bool _) rfl) ?_
 refine s_nil ?_
 refine c_ret ?_
 refine n_done rfl (by decide) (Eq.trans (b := .bool _) rfl (congrArg Value.bool ?_))
 rfl
end Go.Proofs.Ytmkboljfbmlebab
