/- What the laws of this place stand on, part 9. Each part names its own conditions in what it states. -/
import Derived.Test.YtmkboljfbmlebaaGreatQ8
namespace Go.Proofs.YtmkboljfbmlebaaGreat
open Go.RowKit
set_option linter.unusedSimpArgs false
set_option linter.unusedVariables false
set_option maxRecDepth 100000
attribute [local irreducible] cC sC nC rC qw
theorem gr_SweepHouse (h : H) (ps : List PayS) (w : World) (hp : PaysIn (At w) h.pa h.pl ps) (hb : h.pl * 48 ≤ 281474976710656) (hlc : h.pl ≤ h.pc) : GivesF Tryz.prog 19 [.agg h.cells] w (SweepF h ps (sweepM h.core ps)) := by
 refine givesF_of Tryz.func19 rfl Tryz.ntmps19 (by simp) ?_
 refine r_seq (by kernel_rfl) ?_
 refine s_box (v := .agg _) rfl (fun b1 => ?_)
 refine s_alloc (z := .agg zeroH.cells) (by kernel_rfl) (fun b2 => ?_)
 refine s_val (v_assign (v := .slice _ _ _) rfl) ?_
 refine s_nil ?_
 refine r_seq (by kernel_rfl) ?_
 refine s_val (v_assign (v := .slice _ _ _) rfl) ?_
 refine s_nil ?_
 refine c_seq ?_
 refine r_seq (by kernel_rfl) ?_
 refine s_val (v_loadA (m := 42) (by kernel_rfl) rfl (.there .here) (H.size _)) ?_
 refine s_call (by kernel_rfl) (fun w hw => gr_IsHouse _ ps w (hp.at hw) hb hlc) ?_
 refine s_val (v_not rfl) ?_
 refine s_nil ?_
 refine c_condN rfl rfl (fun h10 => ?_) (fun h10 => ?_)
 · refine r_seq (by kernel_rfl) ?_
   refine s_val (v_loadA (m := 42) (by kernel_rfl) rfl (.there .here) (H.size _)) ?_
   refine s_storeA (m := 42) (by kernel_rfl) rfl rfl .here (H.size _) (H.size _) (H.all1 _) ?_
   refine s_val (v_assign (v := .slice _ _ _) rfl) ?_
   refine s_nil ?_
   refine c_ret ?_
   refine n_ret ?_
   refine n_done2F (m := 42) rfl (by decide) (by decide) rfl (by kernel_rfl) .here (H.size _) (fun w hw => ?_)
   have hg : goodB h.core ps = false := (isHouse_eq hp.1).symm.trans h10
   simp only [sweepM, hg, cond_false]
   exact ⟨_, _, rfl, ⟨h, rfl, rfl, hlc, .inl ⟨rfl, rfl, rfl⟩⟩, none, 0, rfl, .inl rfl⟩
 refine c_skip ?_
 refine n_then ?_
 refine r_seq (by kernel_rfl) ?_
 refine s_val (v_assign (v := .int .i64 _) rfl) ?_
 refine s_nil ?_
 refine c_seq ?_
 refine r_seq (by kernel_rfl) ?_
 refine s_val (v_assign (v := .int .i64 _) rfl) ?_
 refine s_nil ?_
 refine c_block ?_
 refine c_loop (σ := SwG) (fun (s : SwG) f => ∃ g, (SwOk w h ps 3 s ∧ s.bank < 4 ∧ s.idle ≤ 4 ∧ sweepFrom s.bank s.idle s.q = sweepFrom 0 0 ⟨h.core, ps, []⟩) ∧ f = (upd (upd (upd (upd (upd g 1 (.pointer (some ⟨b1, 0, none⟩))) 2 (.pointer (some ⟨b2, 0, none⟩))) 4 (s.v)) 5 (I (s.idle : Int))) 6 (I (s.bank : Int)))) (fun (s : SwG) => Has w s.F (s.E ++ [(b2, .cells zeroH.cells 29), (b1, .cells s.h.cells 29)])) (fun (s : SwG) => 5 * cnt s.ps + (4 - s.idle)) ⟨At w, h, ps, [], .slice none 0 0, [], 0, 0⟩ ⟨_, ⟨swOk_start hp hlc, Nat.zero_lt_succ _, Nat.zero_le _, rfl⟩, live5 rfl rfl rfl rfl rfl⟩ (fun w hw => hw) ?_
 rintro s _ ⟨g, ⟨hok0, hb4, hi4, hsw⟩, rfl⟩
 refine c_seq ?_
 refine r_seq (by kernel_rfl) ?_
 refine s_val (v_move (v := .int .i64 _) rfl) ?_
 refine s_val (v_lss (k := .i64) rfl rfl) ?_
 refine s_nil ?_
 refine c_condR rfl rfl (fun h13 => ?_) (fun h13 => ?_)
 · have h4 : ¬ s.idle < 4 := by have := of_decide_eq_false h13; omega
   refine c_exit ?_
   refine n_exit ?_
   refine n_exit ?_
   refine n_bhere ?_
   refine n_then ?_
   refine r_seq (by kernel_rfl) ?_
   refine s_val (v_loadA (m := 42) (by kernel_rfl) rfl (.app (.there .here)) (H.size _)) ?_
   refine s_val (v_move (v := _) rfl) ?_
   refine s_storeA (m := 42) (by kernel_rfl) rfl rfl (.app .here) (H.size _) (H.size _) (H.all1 _) ?_
   refine s_val (v_assign (v := _) rfl) ?_
   refine s_nil ?_
   refine c_ret ?_
   refine n_done2F (m := 42) rfl (by decide) (by decide) rfl (by kernel_rfl) (.app .here) (H.size _) (fun w hw => ?_)
   have hg : goodB h.core ps = true := (isHouse_eq hp.1).symm.trans h10
   simp only [sweepM, hg, cond_true]
   rw [← hsw, sweep_end h4]
   exact hok0.done hw
 have h4 : s.idle < 4 := by have := of_decide_eq_true h13; omega
 refine c_skip ?_
 refine n_then ?_
 refine c_seq ?_
 refine c_block ?_
 refine r_seq (by kernel_rfl) ?_
 refine s_val (v_move (v := .int .i64 _) rfl) ?_
 refine s_val (v_add rfl rfl (by omega)) ?_
 refine s_val (v_assign (v := .int .i64 _) rfl) ?_
 refine s_nil ?_
 refine c_block ?_
 refine c_loop (σ := SwG) (fun (t : SwG) f => ∃ g, (SwOk w h ps 3 t ∧ drain s.bank t.q = drain s.bank s.q ∧ ((t.idle = s.idle + 1 ∧ t.xs.length = s.xs.length) ∨ (t.idle = 0 ∧ s.xs.length < t.xs.length))) ∧ f = (upd (upd (upd (upd (upd g 1 (.pointer (some ⟨b1, 0, none⟩))) 2 (.pointer (some ⟨b2, 0, none⟩))) 4 (t.v)) 5 (I (t.idle : Int))) 6 (I (s.bank : Int)))) (fun (t : SwG) => Has w t.F (t.E ++ [(b2, .cells zeroH.cells 29), (b1, .cells t.h.cells 29)])) (fun (t : SwG) => cnt t.ps) ⟨s.F, s.h, s.ps, s.xs, s.v, s.E, s.bank, s.idle + 1⟩ ⟨_, ⟨hok0.learn (fun _ _ h => h) _ _, rfl, .inl ⟨rfl, rfl⟩⟩, live5 rfl rfl rfl rfl rfl⟩ (fun w hw => hw) ?_
 rintro t _ ⟨g, ⟨hok, hdr, hid⟩, rfl⟩
 refine c_block ?_
 have hlct := hok.lc
 have hlnt := hok.len
 refine r_seq (by kernel_rfl) ?_
 refine s_val (v_loadA (m := 42) (by kernel_rfl) rfl (.app (.there .here)) (H.size _)) ?_
 refine s_val (v_move (v := .int .i64 _) rfl) ?_
 refine s_callF (by kernel_rfl) (fun w hw => gr_QueueOf t.h t.ps s.bank w (hok.pays.at hw) (by omega) hlct) (fun F21 v21 E21 hF21 hK21 hR21 => ?_)
 have hpy := hok.pays.mono hF21
 obtain ⟨a21, c21, rfl, hq21⟩ := ints_of_list hR21 hK21
 refine s_val (v_assign (v := .slice _ _ _) rfl) ?_
 refine s_nil ?_
 refine c_seq ?_
 refine d_seq (by kernel_rfl) (by kernel_rfl) (fun w hw => hw.drew) (by kernel_rfl) ?_
 refine q_val (v_move (v := .slice _ _ _) rfl) ?_
 refine q_val (v_lenS (T := 34) (m := 1) (by kernel_rfl) rfl rfl) ?_
 refine q_val (v_eql (k := .i64) rfl rfl) ?_
 refine q_val (v_move (v := .bool _) rfl) ?_
 refine q_split (s := 25) rfl (fun h25 => ?_) (fun h25 => ?_)
 · refine q_pass rfl rfl h25 ?_
   refine q_pass rfl rfl h25 ?_
   refine q_pass rfl rfl h25 ?_
   refine q_pass rfl rfl h25 ?_
   refine q_pass rfl rfl h25 ?_
   refine q_pass rfl rfl h25 ?_
   refine q_pass rfl rfl h25 ?_
   refine q_pass rfl rfl h25 ?_
   refine q_pass rfl rfl h25 ?_
   refine q_pass rfl rfl h25 ?_
   refine q_pass rfl rfl h25 ?_
   refine q_pass rfl rfl h25 ?_
   refine q_pass rfl rfl h25 ?_
   refine q_pass rfl rfl h25 ?_
   refine q_pass rfl rfl h25 ?_
   refine q_pass rfl rfl h25 ?_
   refine q_pass rfl rfl h25 ?_
   refine q_pass rfl rfl h25 ?_
   refine q_pass rfl rfl h25 ?_
   refine q_pass rfl rfl h25 ?_
   refine q_val (v_pickT (v := .bool _) rfl h25 rfl) ?_
   refine q_nil ?_
   refine c_condTh rfl rfl rfl ?_
   refine c_exit ?_
   refine n_exit ?_
   refine n_bpast rfl ?_
   refine n_exit ?_
   refine n_bhere ?_
   refine n_bnormal ?_
   refine n_then ?_
   refine r_list (by kernel_rfl) ?_
   refine s_val (v_move (v := .int .i64 _) rfl) ?_
   refine s_val (v_add rfl rfl (by omega)) ?_
   refine s_val (v_rem (c := (((s.bank + 1) % 4 : Nat) : Int)) rfl rfl (by decide) (rem4 _)) ?_
   refine s_val (v_assign (v := .int .i64 _) rfl) ?_
   refine s_end ?_
   refine n_round (s := s) ⟨F21, t.h, t.ps, t.xs, t.v, t.E, (s.bank + 1) % 4, t.idle⟩ ⟨_, (by
     obtain ⟨e1, e2, e3⟩ := sw_round (s := s.q) (t := t.q) h4 (firstM_nil (show queueM t.ps s.bank = [] from List.eq_nil_of_length_eq_zero (by have := of_decide_eq_true h25; omega))) hdr hid
     exact ⟨hok.learn hF21 _ _, Nat.mod_lt _ (by decide), e3, e1.trans hsw⟩), live5 rfl rfl rfl rfl rfl⟩ (fun _ hw => hw) (sw_round (s := s.q) (t := t.q) h4 (firstM_nil (show queueM t.ps s.bank = [] from List.eq_nil_of_length_eq_zero (by have := of_decide_eq_true h25; omega))) hdr hid).2.1
 have hne := of_decide_eq_false h25
 obtain ⟨i, r, hq⟩ : ∃ i r, queueM t.ps s.bank = i :: r := by
   cases hq : queueM t.ps s.bank with
   | nil => rw [hq] at hne; exact absurd rfl hne
   | cons i r => exact ⟨i, r, rfl⟩
 obtain ⟨bq, oq, rfl, hel⟩ := hq21.resolve_left (by rw [hq]; simp)
 have hi0 := hel 0 i (by rw [hq]; rfl)
 have hlen : (0 : Int) < ((queueM t.ps s.bank).length : Int) := by rw [hq]; simp only [List.length_cons]; omega
 obtain ⟨p, hst, hpi, hsta, hsrc⟩ := (queueM_mine (show i ∈ queueM t.ps s.bank by rw [hq]; simp)).settles
 have hi1 := (settles_spec hst).1
 have hilt : i.toNat < t.h.pl := by have := (List.getElem?_eq_some_iff.1 hpi).1; have := hok.pays.1; omega
 obtain ⟨bp, op, hpa, hc⟩ := hpy.some hilt
 refine q_want rfl rfl h25 ?_
 refine q_val (v_loadA (m := 42) (by kernel_rfl) rfl (.app (.there .here)) (H.size _)) ?_
 refine q_want rfl rfl h25 ?_
 refine q_val (v_move (v := .int .i64 _) rfl) ?_
 refine q_want rfl rfl h25 ?_
 refine q_val (v_field (fo := 40) (by kernel_rfl) rfl) ?_
 refine q_want rfl rfl h25 ?_
 refine q_val (v_load1 (v := .slice _ _ _) (by kernel_rfl) rfl (.app (.there .here)) (H.at_pays _)) ?_
 refine q_want rfl rfl h25 ?_
 refine q_val (v_move (v := .slice _ _ _) rfl) ?_
 refine q_want rfl rfl h25 ?_
 refine q_val (v_idxS (size := 1) (k := .i64) (by kernel_rfl) rfl rfl ⟨by decide, hlen⟩) ?_
 refine q_want rfl rfl h25 ?_
 refine q_val (v_load1o (v := I i) (by kernel_rfl) rfl hi0) ?_
 refine q_want rfl rfl h25 ?_
 refine q_val (v_idxS (size := 6) (k := .i64) (by kernel_rfl) (congrArg (fun a => Value.slice a t.h.pl t.h.pc) hpa) rfl ⟨by omega, by omega⟩) ?_
 refine q_want rfl rfl h25 ?_
 refine q_val (v_field (fo := 1) (by kernel_rfl) rfl) ?_
 refine q_want rfl rfl h25 ?_
 refine q_val (v_load1o (by kernel_rfl) rfl (hc _ p hpi 1 _ rfl)) ?_
 refine q_want rfl rfl h25 ?_
 refine q_val (v_field (fo := 40) (by kernel_rfl) rfl) ?_
 refine q_want rfl rfl h25 ?_
 refine q_val (v_load1 (v := .slice _ _ _) (by kernel_rfl) rfl (.app (.there .here)) (H.at_pays _)) ?_
 refine q_want rfl rfl h25 ?_
 refine q_val (v_move (v := .slice _ _ _) rfl) ?_
 refine q_want rfl rfl h25 ?_
 refine q_val (v_idxS (size := 1) (k := .i64) (by kernel_rfl) rfl rfl ⟨by decide, hlen⟩) ?_
 refine q_want rfl rfl h25 ?_
 refine q_val (v_load1o (v := I i) (by kernel_rfl) rfl hi0) ?_
 refine q_want rfl rfl h25 ?_
 refine q_val (v_idxS (size := 6) (k := .i64) (by kernel_rfl) (congrArg (fun a => Value.slice a t.h.pl t.h.pc) hpa) rfl ⟨by omega, by omega⟩) ?_
 refine q_want rfl rfl h25 ?_
 refine q_val (v_field (fo := 2) (by kernel_rfl) rfl) ?_
 refine q_want rfl rfl h25 ?_
 refine q_val (v_load1o (by kernel_rfl) rfl (hc _ p hpi 2 _ rfl)) ?_
 refine q_want rfl rfl h25 ?_
 refine q_call (by kernel_rfl) (fun w hw => gr_MaySend _ _ _ _ w) ?_
 refine q_want rfl rfl h25 ?_
 refine q_val (v_not rfl) ?_
 refine q_val (v_pickF (v := .bool _) rfl h25 rfl) ?_
 refine q_nil ?_
 refine c_condN rfl rfl (fun h46 => ?_) (fun h46 => ?_)
 · refine c_exit ?_
   refine n_exit ?_
   refine n_bpast rfl ?_
   refine n_exit ?_
   refine n_bhere ?_
   refine n_bnormal ?_
   refine n_then ?_
   refine r_list (by kernel_rfl) ?_
   refine s_val (v_move (v := .int .i64 _) rfl) ?_
   refine s_val (v_add rfl rfl (by omega)) ?_
   refine s_val (v_rem (c := (((s.bank + 1) % 4 : Nat) : Int)) rfl rfl (by decide) (rem4 _)) ?_
   refine s_val (v_assign (v := .int .i64 _) rfl) ?_
   refine s_end ?_
   refine n_round (s := s) ⟨F21, t.h, t.ps, t.xs, t.v, t.E, (s.bank + 1) % 4, t.idle⟩ ⟨_, (by
     obtain ⟨e1, e2, e3⟩ := sw_round (s := s.q) (t := t.q) h4 (firstM_no hq hpi h46) hdr hid
     exact ⟨hok.learn hF21 _ _, Nat.mod_lt _ (by decide), e3, e1.trans hsw⟩), live5 rfl rfl rfl rfl rfl⟩ (fun _ hw => hw) (sw_round (s := s.q) (t := t.q) h4 (firstM_no hq hpi h46) hdr hid).2.1
 refine c_skip ?_
 refine n_then ?_
 refine t_seq (k := 4) (by kernel_rfl) (by kernel_rfl) (fun w hw => hw.drew) (by kernel_rfl) ?_
 refine q_val (v_loadA (m := 42) (by kernel_rfl) rfl (.app (.there .here)) (H.size _)) ?_
 refine q_val (v_move (v := .slice _ _ _) rfl) ?_
 refine q_val (v_idxS (size := 1) (k := .i64) (by kernel_rfl) rfl rfl ⟨by decide, hlen⟩) ?_
 refine q_val (v_load1o (v := I i) (by kernel_rfl) rfl hi0) ?_
 refine q_tail ?_
 refine s_callG (by kernel_rfl) (houseF_mono _ _ _ _) (fun w hw => gr_SettlePay t.h t.ps i w (hpy.at hw) (by omega) hlct) (fun F51 v51 hF51 hR51 => ?_)
 obtain ⟨h51, rfl, hco51, hlc51, hpo51⟩ := hR51
 have hcs := cnt_settle hst
 have hsum := hok.sum
 refine s_storeA (m := 42) (by kernel_rfl) rfl rfl (.app (.there .here)) (H.size _) (H.size _) (H.all1 _) ?_
 refine s_nil ?_
 refine r_seq (by kernel_rfl) ?_
 refine s_val (v_move (v := _) rfl) ?_
 refine s_val (v_move (v := .slice _ _ _) rfl) ?_
 refine s_val (v_idxS (size := 1) (k := .i64) (by kernel_rfl) rfl rfl ⟨by decide, hlen⟩) ?_
 refine s_val (v_load1o (v := I i) (by kernel_rfl) rfl (hF51 _ _ hi0)) ?_
 refine s_build1 (v := .int .i64 _) (e := 3) (m := 1) (by_ := 8) (by kernel_rfl) rfl rfl rfl (fill_scalar rfl) (fun b56 => ?_)
 refine s_push (e := 3) (m := 1) (by_ := 8) (by kernel_rfl) rfl rfl rfl rfl rfl hok.list rfl (all_scalar rfl rfl) (by omega) (fun v57 E57 hE57 => ?_)
 refine s_val (v_assign (v := _) rfl) ?_
 refine s_nil ?_
 refine r_list (by kernel_rfl) ?_
 refine s_val (v_assign (v := .int .i64 _) rfl) ?_
 refine s_end ?_
 refine n_bnormal ?_
 refine n_round (s := t) ⟨F51, h51, settleP t.ps i, t.xs ++ [i], v57, E57, 0, 0⟩ ⟨_, ⟨hok.go (fun a v h => hF51 a v (hF21 a v h)) hst hlc51 hpo51 hE57 _ _, (sw_drain hq hpi h46 hco51).trans hdr, .inr ⟨rfl, by
     simp only [List.length_append, List.length_cons, List.length_nil]; omega⟩⟩, live5 rfl rfl rfl rfl rfl⟩ (fun _ hw => hw) (by dsimp only; omega)
end Go.Proofs.YtmkboljfbmlebaaGreat
namespace Go.Proofs.YtmkboljfbmlebaaGreat
open Go.RowKit
set_option linter.unusedSimpArgs false
set_option linter.unusedVariables false
set_option maxRecDepth 100000
attribute [local irreducible] cC sC nC rC qw
theorem gr_SameReply (c1 n1 c2 n2 : Int) (a1 a2 : Option Addr) (p1 p2 : Nat) (xs ys : List Int) (w : World) (hx : IntsAt (At w) a1 xs) (hy : IntsAt (At w) a2 ys) (hb : xs.length ≤ 9223372036854775807) : Gives Tryz.prog 8 [.agg (repC c1 n1 (.slice a1 xs.length p1)), .agg (repC c2 n2 (.slice a2 ys.length p2))] w (.bool (sameRB c1 n1 xs c2 n2 ys)) := by
 refine gives_of Tryz.func8 rfl Tryz.ntmps8 (by simp) ?_
 refine r_seq (by kernel_rfl) ?_
 refine s_box (v := .agg _) rfl (fun b2 => ?_)
 refine s_box (v := .agg _) rfl (fun b3 => ?_)
 refine s_val (v_assign (v := .bool _) rfl) ?_
 refine s_nil ?_
 refine c_seq ?_
 refine r_seq (by kernel_rfl) ?_
 refine s_val (v_field (fo := 0) (by kernel_rfl) rfl) ?_
 refine s_val (v_load1 (v := .int .i64 _) (by kernel_rfl) rfl (.there .here) rfl) ?_
 refine s_val (v_field (fo := 0) (by kernel_rfl) rfl) ?_
 refine s_val (v_load1 (v := .int .i64 _) (by kernel_rfl) rfl .here rfl) ?_
 refine s_val (v_neq (k := .i64) rfl rfl) ?_
 refine s_val (v_move (v := .bool _) rfl) ?_
 refine s_splitN (s := 11) rfl (fun h11 => ?_) (fun h11 => ?_)
 · refine s_pass rfl rfl (congrArg not h11) ?_
   refine s_pass rfl rfl (congrArg not h11) ?_
   refine s_pass rfl rfl (congrArg not h11) ?_
   refine s_pass rfl rfl (congrArg not h11) ?_
   refine s_pass rfl rfl (congrArg not h11) ?_
   refine s_val (v_pickT (v := .bool _) rfl (congrArg not h11) rfl) ?_
   refine s_val (v_move (v := .bool _) rfl) ?_
   refine s_pass (g := true) rfl rfl rfl ?_
   refine s_pass (g := true) rfl rfl rfl ?_
   refine s_pass (g := true) rfl rfl rfl ?_
   refine s_pass (g := true) rfl rfl rfl ?_
   refine s_pass (g := true) rfl rfl rfl ?_
   refine s_pass (g := true) rfl rfl rfl ?_
   refine s_pass (g := true) rfl rfl rfl ?_
   refine s_val (v_pickT (v := .bool _) rfl rfl rfl) ?_
   refine s_nil ?_
   refine c_condTh rfl rfl rfl ?_
   refine r_seq (by kernel_rfl) ?_
   refine s_val (v_assign (v := .bool _) rfl) ?_
   refine s_nil ?_
   refine c_ret ?_
   refine n_ret ?_
   refine n_done rfl (by decide) (Eq.trans (b := .bool _) rfl (congrArg Value.bool ?_))
   simp only [sameRB, *, Bool.true_and, Bool.false_and, Bool.and_true, Bool.and_false, Bool.not_true, Bool.not_false, Bool.true_or, Bool.or_true, Bool.false_or, Bool.or_false, cond_true, cond_false, if_true, if_false, Bool.false_eq_true, decide_true, decide_false]
 refine s_want rfl rfl (congrArg not h11) ?_
 refine s_val (v_field (fo := 1) (by kernel_rfl) rfl) ?_
 refine s_want rfl rfl (congrArg not h11) ?_
 refine s_val (v_load1 (v := .int .i64 _) (by kernel_rfl) rfl (.there .here) rfl) ?_
 refine s_want rfl rfl (congrArg not h11) ?_
 refine s_val (v_field (fo := 1) (by kernel_rfl) rfl) ?_
 refine s_want rfl rfl (congrArg not h11) ?_
 refine s_val (v_load1 (v := .int .i64 _) (by kernel_rfl) rfl .here rfl) ?_
 refine s_want rfl rfl (congrArg not h11) ?_
 refine s_val (v_neq (k := .i64) rfl rfl) ?_
 refine s_val (v_pickF (v := .bool _) rfl (congrArg not h11) rfl) ?_
 refine s_val (v_move (v := .bool _) rfl) ?_
 refine s_splitN (s := 18) rfl (fun h18 => ?_) (fun h18 => ?_)
 · refine s_pass rfl rfl (congrArg not h18) ?_
   refine s_pass rfl rfl (congrArg not h18) ?_
   refine s_pass rfl rfl (congrArg not h18) ?_
   refine s_pass rfl rfl (congrArg not h18) ?_
   refine s_pass rfl rfl (congrArg not h18) ?_
   refine s_pass rfl rfl (congrArg not h18) ?_
   refine s_pass rfl rfl (congrArg not h18) ?_
   refine s_val (v_pickT (v := .bool _) rfl (congrArg not h18) rfl) ?_
   refine s_nil ?_
   refine c_condTh rfl rfl rfl ?_
   refine r_seq (by kernel_rfl) ?_
   refine s_val (v_assign (v := .bool _) rfl) ?_
   refine s_nil ?_
   refine c_ret ?_
   refine n_ret ?_
   refine n_done rfl (by decide) (Eq.trans (b := .bool _) rfl (congrArg Value.bool ?_))
   simp only [sameRB, *, Bool.true_and, Bool.false_and, Bool.and_true, Bool.and_false, Bool.not_true, Bool.not_false, Bool.true_or, Bool.or_true, Bool.false_or, Bool.or_false, cond_true, cond_false, if_true, if_false, Bool.false_eq_true, decide_true, decide_false]
 refine s_want rfl rfl (congrArg not h18) ?_
 refine s_val (v_field (fo := 2) (by kernel_rfl) rfl) ?_
 refine s_want rfl rfl (congrArg not h18) ?_
 refine s_val (v_load1 (v := .slice _ _ _) (by kernel_rfl) rfl (.there .here) rfl) ?_
 refine s_want rfl rfl (congrArg not h18) ?_
 refine s_val (v_lenS (T := 34) (m := 1) (by kernel_rfl) rfl rfl) ?_
 refine s_want rfl rfl (congrArg not h18) ?_
 refine s_val (v_field (fo := 2) (by kernel_rfl) rfl) ?_
 refine s_want rfl rfl (congrArg not h18) ?_
 refine s_val (v_load1 (v := .slice _ _ _) (by kernel_rfl) rfl .here rfl) ?_
 refine s_want rfl rfl (congrArg not h18) ?_
 refine s_val (v_lenS (T := 34) (m := 1) (by kernel_rfl) rfl rfl) ?_
 refine s_want rfl rfl (congrArg not h18) ?_
 refine s_val (v_neq (k := .i64) rfl rfl) ?_
 refine s_val (v_pickF (v := .bool _) rfl (congrArg not h18) rfl) ?_
 refine s_nil ?_
 refine c_condN rfl rfl (fun h26 => ?_) (fun h26 => ?_)
 · refine r_seq (by kernel_rfl) ?_
   refine s_val (v_assign (v := .bool _) rfl) ?_
   refine s_nil ?_
   refine c_ret ?_
   refine n_ret ?_
   refine n_done rfl (by decide) (Eq.trans (b := .bool _) rfl (congrArg Value.bool ?_))
   have e := ints_len (of_decide_eq_false h26)
   simp only [sameRB, *, Bool.true_and, Bool.false_and, Bool.and_true, Bool.and_false, Bool.not_true, Bool.not_false, Bool.true_or, Bool.or_true, Bool.false_or, Bool.or_false, cond_true, cond_false, if_true, if_false, Bool.false_eq_true, decide_true, decide_false]
 refine c_skip ?_
 refine n_then ?_
 refine c_seq ?_
 refine r_seq (by kernel_rfl) ?_
 refine s_val (v_field (fo := 2) (by kernel_rfl) rfl) ?_
 refine s_val (v_load1 (v := .slice _ _ _) (by kernel_rfl) rfl (.there .here) rfl) ?_
 refine s_val (v_lenS (T := 34) (m := 1) (by kernel_rfl) rfl rfl) ?_
 refine s_val (v_move (v := .int .i64 _) rfl) ?_
 refine s_nil ?_
 refine c_block ?_
 refine c_loop (σ := Nat) (fun (j : Nat) f => ∃ g, (j ≤ xs.length ∧ xs.take j = ys.take j) ∧ f = (upd (upd (upd (upd g 2 (.pointer (some ⟨b2, 0, none⟩))) 3 (.pointer (some ⟨b3, 0, none⟩))) 29 (I xs.length)) 30 (I j))) (fun (j : Nat) => Has w (At w) [(b3, .cells (repC c2 n2 (.slice a2 ys.length p2)) 36), (b2, .cells (repC c1 n1 (.slice a1 xs.length p1)) 36)]) (fun (j : Nat) => xs.length - j) 0 ⟨_, ⟨Nat.zero_le _, rfl⟩, live4 rfl rfl rfl rfl⟩ (fun w hw => hw) ?_
 rintro j _ ⟨g, ⟨hjl, hinv⟩, rfl⟩
 refine r_seq (by kernel_rfl) ?_
 refine s_val (v_lss (k := .i64) rfl rfl) ?_
 refine s_nil ?_
 refine c_seq ?_
 refine c_condR rfl rfl (fun h31 => ?_) (fun h31 => ?_)
 · refine c_exit ?_
   refine n_exit ?_
   refine n_exit ?_
   refine n_bhere ?_
   refine n_then ?_
   refine r_seq (by kernel_rfl) ?_
   refine s_val (v_assign (v := .bool _) rfl) ?_
   refine s_nil ?_
   refine c_ret ?_
   refine n_done rfl (by decide) (Eq.trans (b := .bool _) rfl (congrArg Value.bool ?_))
   have e := ints_all (of_decide_eq_true h26) hinv (of_decide_eq_false h31)
   simp only [sameRB, *, Bool.true_and, Bool.false_and, Bool.and_true, Bool.and_false, Bool.not_true, Bool.not_false, Bool.true_or, Bool.or_true, Bool.false_or, Bool.or_false, cond_true, cond_false, if_true, if_false, Bool.false_eq_true, decide_true, decide_false]
 have hj0 := of_decide_eq_true h31
 have hll := of_decide_eq_true h26
 obtain ⟨b, o, x, ha1, hxj, hfx⟩ := hx.get (j := j) (by omega)
 obtain ⟨b', o', y, ha2, hyj, hfy⟩ := hy.get (j := j) (by omega)
 refine c_skip ?_
 refine n_then ?_
 refine c_seq ?_
 refine c_block ?_
 refine r_seq (by kernel_rfl) ?_
 refine s_val (v_move (v := .int .i64 _) rfl) ?_
 refine s_val (v_assign (v := .int .i64 _) rfl) ?_
 refine s_nil ?_
 refine d_seq (by kernel_rfl) (by kernel_rfl) (fun w hw => hw.drew) (by kernel_rfl) ?_
 refine q_val (v_field (fo := 2) (by kernel_rfl) rfl) ?_
 refine q_val (v_load1 (v := .slice _ _ _) (by kernel_rfl) rfl (.there .here) rfl) ?_
 refine q_val (v_move (v := .int .i64 _) rfl) ?_
 refine q_val (v_idxS (size := 1) (k := .i64) (by kernel_rfl) (congrArg (fun a => Value.slice a xs.length p1) ha1) rfl ⟨by omega, by omega⟩) ?_
 refine q_val (v_load1o (v := I x) (by kernel_rfl) rfl (by simpa using hfx)) ?_
 refine q_val (v_field (fo := 2) (by kernel_rfl) rfl) ?_
 refine q_val (v_load1 (v := .slice _ _ _) (by kernel_rfl) rfl .here rfl) ?_
 refine q_val (v_move (v := .int .i64 _) rfl) ?_
 refine q_val (v_idxS (size := 1) (k := .i64) (by kernel_rfl) (congrArg (fun a => Value.slice a ys.length p2) ha2) rfl ⟨by omega, by omega⟩) ?_
 refine q_val (v_load1o (v := I y) (by kernel_rfl) rfl (by simpa using hfy)) ?_
 refine q_val (v_neq (k := .i64) rfl rfl) ?_
 refine q_nil ?_
 refine c_condNR rfl rfl (fun h43 => ?_) (fun h43 => ?_)
 · refine c_skip ?_
   refine n_bnormal ?_
   refine n_then ?_
   refine r_list (by kernel_rfl) ?_
   refine s_val (v_add rfl rfl (by omega)) ?_
   refine s_val (v_move (v := .int .i64 _) rfl) ?_
   refine s_end ?_
   refine n_round (j + 1) ⟨_, ⟨by omega, same_take hinv hxj hyj (of_decide_eq_true h43)⟩, live4 rfl rfl rfl rfl⟩ (fun _ hw => hw) (by omega)
 refine r_seq (by kernel_rfl) ?_
 refine s_val (v_assign (v := .bool _) rfl) ?_
 refine s_nil ?_
 refine c_ret ?_
 refine n_bret ?_
 refine n_ret ?_
 refine n_ret ?_
 refine n_bret ?_
 refine n_ret ?_
 refine n_done rfl (by decide) (Eq.trans (b := .bool _) rfl (congrArg Value.bool ?_))
 have e := ints_bad hxj hyj (of_decide_eq_false h43)
 simp only [sameRB, *, Bool.true_and, Bool.false_and, Bool.and_true, Bool.and_false, Bool.not_true, Bool.not_false, Bool.true_or, Bool.or_true, Bool.false_or, Bool.or_false, cond_true, cond_false, if_true, if_false, Bool.false_eq_true, decide_true, decide_false]
end Go.Proofs.YtmkboljfbmlebaaGreat
namespace Go.Proofs.YtmkboljfbmlebaaGreat
open Go.RowKit
set_option linter.unusedSimpArgs false
set_option linter.unusedVariables false
set_option maxRecDepth 100000
attribute [local irreducible] cC sC nC rC qw
set_option maxHeartbeats 1000000 in
theorem gr_AllTogether (h : H) (ps : List PayS) (n : Int → Int) (w : World) (hp : PaysIn (At w) h.pa h.pl ps) (hb : h.pl * 48 ≤ 281474976710656) (hlc : h.pl ≤ h.pc) : Gives Tryz.prog 56 [.agg h.cells, .agg (rowA n)] w (.bool (togetherM h ps n)) := by
 refine gives_of Tryz.func56 rfl Tryz.ntmps56 (by simp) ?_
 refine r_seq (by kernel_rfl) ?_
 refine s_box (v := .agg _) rfl (fun b2 => ?_)
 refine s_box (v := .agg _) rfl (fun b3 => ?_)
 refine s_val (v_assign (v := .bool _) rfl) ?_
 refine s_nil ?_
 refine c_seq ?_
 refine r_seq (by kernel_rfl) ?_
 refine s_val (v_loadA (m := 42) (by kernel_rfl) rfl (.there .here) (H.size _)) ?_
 refine s_call (by kernel_rfl) (fun w hw => gr_IsHouse _ ps w (hp.at hw) hb hlc) ?_
 refine s_val (v_not rfl) ?_
 refine s_nil ?_
 refine c_condN rfl rfl (fun h14 => ?_) (fun h14 => ?_)
 · refine r_seq (by kernel_rfl) ?_
   refine s_val (v_assign (v := .bool _) rfl) ?_
   refine s_nil ?_
   refine c_ret ?_
   refine n_ret ?_
   refine n_done rfl (by decide) (Eq.trans (b := .bool _) rfl (congrArg Value.bool ?_))
   exact (tog_house ((isHouse_eq hp.1).symm.trans h14)).symm
 refine c_skip ?_
 refine n_then ?_
 refine r_seq (by kernel_rfl) ?_
 refine s_val (v_loadA (m := 42) (by kernel_rfl) rfl (.there .here) (H.size _)) ?_
 refine s_alloc (z := .agg zeroH.cells) (by kernel_rfl) (fun b5 => ?_)
 refine s_storeA (m := 42) (by kernel_rfl) rfl rfl .here (H.size _) (H.size _) (H.all1 _) ?_
 refine s_nil ?_
 refine c_seq ?_
 refine r_seq (by kernel_rfl) ?_
 refine s_val (v_move (v := .int .i64 _) rfl) ?_
 refine s_nil ?_
 refine c_block ?_
 refine c_loop (σ := KF) (fun (s : KF) f => ∃ g, (s.k ≤ 4 ∧ More (At w) s.F ∧ ∀ b : Int, 0 ≤ b → b < s.k → withinB (n b) 0 (queueM ps b).length = true) ∧ f = (upd (upd (upd (upd g 2 (.pointer (some ⟨b2, 0, none⟩))) 3 (.pointer (some ⟨b3, 0, none⟩))) 5 (.pointer (some ⟨b5, 0, none⟩))) 16 (I s.k))) (fun (s : KF) => Has w s.F [(b5, .cells (movesTo h ps n s.k).cells 29), (b3, .cells (rowA n) 25), (b2, .cells h.cells 29)]) (fun (s : KF) => 4 - s.k) ⟨0, At w⟩ ⟨_, ⟨Nat.zero_le _, fun _ _ h => h, fun b h0 h1 => by dsimp only at h1; omega⟩, live4 rfl rfl rfl rfl⟩ (fun w hw => hw) ?_
 rintro s _ ⟨g, ⟨hkl, hmo, hsz⟩, rfl⟩
 refine r_seq (by kernel_rfl) ?_
 refine s_val (v_lss (k := .i64) rfl rfl) ?_
 refine s_nil ?_
 refine c_seq ?_
 refine c_cond rfl rfl (fun h17 => ?_) (fun h17 => ?_)
 · have hk4 : s.k < 4 := by have := of_decide_eq_true h17; omega
   have hki : 0 ≤ (s.k : Int) ∧ (s.k : Int) < 4 := ⟨by omega, by omega⟩
   refine c_skip ?_
   refine n_then ?_
   refine c_seq ?_
   refine c_block ?_
   refine r_seq (by kernel_rfl) ?_
   refine s_val (v_move (v := .int .i64 _) rfl) ?_
   refine s_val (v_assign (v := .int .i64 _) rfl) ?_
   refine s_nil ?_
   refine r_seq (by kernel_rfl) ?_
   refine s_val (v_loadA (m := 42) (by kernel_rfl) rfl (.there (.there .here)) (H.size _)) ?_
   refine s_val (v_move (v := .int .i64 _) rfl) ?_
   refine s_callF (by kernel_rfl) (fun w hw => gr_QueueOf h ps s.k w ((hp.mono hmo).at hw) hb hlc) (fun F21 v21 E21 hF21 hK21 hR21 => ?_)
   obtain ⟨a21, c21, rfl, ia21⟩ := (ints_of_list hR21 hK21).at
   refine s_val (v_assign (v := .slice _ _ _) rfl) ?_
   refine s_nil ?_
   refine c_seq ?_
   refine r_seq (by kernel_rfl) ?_
   refine s_val (v_move (v := .int .i64 _) rfl) ?_
   refine s_val (v_idxA (len := 4) (size := 1) (k := .i64) (by kernel_rfl) rfl rfl (by assumption)) ?_
   refine s_val (v_load1 (v := .int .i64 _) (by kernel_rfl) rfl (.there .here) (rowA_at0 _ (by assumption))) ?_
   refine s_val (v_move (v := .slice _ _ _) rfl) ?_
   refine s_val (v_lenS (T := 34) (m := 1) (by kernel_rfl) rfl rfl) ?_
   refine s_call (by kernel_rfl) (fun w hw => gr_within _ _ _ w) ?_
   refine s_val (v_not rfl) ?_
   refine s_nil ?_
   refine c_condN rfl rfl (fun h28 => ?_) (fun h28 => ?_)
   · refine r_seq (by kernel_rfl) ?_
     refine s_val (v_assign (v := .bool _) rfl) ?_
     refine s_nil ?_
     refine c_ret ?_
     refine n_ret ?_
     refine n_bret ?_
     refine n_ret ?_
     refine n_ret ?_
     refine n_bret ?_
     refine n_ret ?_
     refine n_done rfl (by decide) (Eq.trans (b := .bool _) rfl (congrArg Value.bool ?_))
     exact (tog_size (b := (s.k : Int)) ⟨by omega, by omega⟩ h28).symm
   refine c_skip ?_
   refine n_then ?_
   refine r_seq (by kernel_rfl) ?_
   refine s_val (v_move (v := .int .i64 _) rfl) ?_
   refine s_val (v_idxA (len := 4) (size := 1) (k := .i64) (by kernel_rfl) rfl rfl (by assumption)) ?_
   refine s_val (v_load1 (v := .int .i64 _) (by kernel_rfl) rfl (.there .here) (rowA_at0 _ (by assumption))) ?_
   refine s_val (v_move (v := .int .i64 _) rfl) ?_
   refine s_nil ?_
   refine c_block ?_
   refine c_loop (σ := Nat) (fun (j : Nat) f => ∃ g, (j ≤ (n s.k).toNat) ∧ f = (upd (upd (upd (upd (upd (upd (upd (upd g 2 (.pointer (some ⟨b2, 0, none⟩))) 3 (.pointer (some ⟨b3, 0, none⟩))) 5 (.pointer (some ⟨b5, 0, none⟩))) 6 (I s.k)) 7 (.slice a21 (queueM ps s.k).length c21)) 16 (I s.k)) 31 (I (n s.k))) 32 (I j))) (fun (j : Nat) => Has w F21 [(b5, .cells (moveQ ps s.k (movesTo h ps n s.k) ((queueM ps s.k).take j)).cells 29), (b3, .cells (rowA n) 25), (b2, .cells h.cells 29)]) (fun (j : Nat) => (n s.k).toNat - j) 0 ⟨_, Nat.zero_le _, live8 rfl rfl rfl rfl rfl rfl rfl rfl⟩ (fun w hw => hw) ?_
   rintro j _ ⟨g, hjl, rfl⟩
   refine r_seq (by kernel_rfl) ?_
   refine s_val (v_lss (k := .i64) rfl rfl) ?_
   refine s_nil ?_
   refine c_seq ?_
   refine c_condR rfl rfl (fun h33 => ?_) (fun h33 => ?_)
   · have hws := within_iff.1 h28
     have hjj : j = (n s.k).toNat := by have := of_decide_eq_false h33; omega
     refine c_exit ?_
     refine n_exit ?_
     refine n_exit ?_
     refine n_bhere ?_
     refine n_bnormal ?_
     refine n_then ?_
     refine r_list (by kernel_rfl) ?_
     refine s_val (v_add rfl rfl (by omega)) ?_
     refine s_val (v_move (v := .int .i64 _) rfl) ?_
     refine s_end ?_
     refine n_round (s := s) ⟨s.k + 1, F21⟩ ⟨_, ⟨by dsimp only; omega, fun a v h => hF21 a v (hmo a v h), fun b h0 h1 => by
     dsimp only at h1
     by_cases e : b = (s.k : Int)
     · subst e; exact h28
     · exact hsz b h0 (by omega)⟩, live4 rfl rfl rfl rfl⟩ (fun _ hw => by rw [hjj] at hw; exact hw) (by dsimp only; omega)
   have hj0 := of_decide_eq_true h33
   have hws := within_iff.1 h28
   obtain ⟨bq, oq, i, ha21, hi, hfi⟩ := ia21.get (j := j) (by omega)
   obtain ⟨p, hst, hpi, hsta, hsrc⟩ := (queueM_mine (List.mem_of_getElem? hi)).settles
   have hi0 := (settles_spec hst).1
   have hil : i.toNat < h.pl := by have := (List.getElem?_eq_some_iff.1 hpi).1; have := hp.1; omega
   obtain ⟨bp, op, hpa, hc⟩ := hp.some hil
   have hql := queueM_len ps s.k
   have hpl := hp.1
   refine c_skip ?_
   refine n_then ?_
   refine c_seq ?_
   refine c_block ?_
   refine r_seq (by kernel_rfl) ?_
   refine s_val (v_move (v := .int .i64 _) rfl) ?_
   refine s_val (v_assign (v := .int .i64 _) rfl) ?_
   refine s_nil ?_
   refine t_list (k := 21) (by kernel_rfl) (by kernel_rfl) (fun w hw => hw.drew) (by kernel_rfl) ?_
   refine q_val (v_loadA (m := 42) (by kernel_rfl) rfl .here (H.size _)) ?_
   refine q_val (v_move (v := .int .i64 _) rfl) ?_
   refine q_val (v_field (fo := 40) (by kernel_rfl) rfl) ?_
   refine q_val (v_load1 (v := .slice _ _ _) (by kernel_rfl) rfl (.there (.there .here)) (H.at_pays _)) ?_
   refine q_val (v_move (v := .slice _ _ _) rfl) ?_
   refine q_val (v_move (v := .int .i64 _) rfl) ?_
   refine q_val (v_idxS (size := 1) (k := .i64) (by kernel_rfl) (congrArg (fun a => Value.slice a (queueM ps s.k).length c21) ha21) rfl ⟨by omega, by omega⟩) ?_
   refine q_val (v_load1o (v := I i) (by kernel_rfl) rfl (by simpa using hfi)) ?_
   refine q_val (v_idxS (size := 6) (k := .i64) (by kernel_rfl) (congrArg (fun a => Value.slice a h.pl h.pc) hpa) rfl ⟨by omega, by omega⟩) ?_
   refine q_val (v_field (fo := 1) (by kernel_rfl) rfl) ?_
   refine q_val (v_load1o (by kernel_rfl) rfl (hF21 _ _ (hmo _ _ (hc _ p hpi 1 _ rfl)))) ?_
   refine q_val (v_field (fo := 40) (by kernel_rfl) rfl) ?_
   refine q_val (v_load1 (v := .slice _ _ _) (by kernel_rfl) rfl (.there (.there .here)) (H.at_pays _)) ?_
   refine q_val (v_move (v := .slice _ _ _) rfl) ?_
   refine q_val (v_move (v := .int .i64 _) rfl) ?_
   refine q_val (v_idxS (size := 1) (k := .i64) (by kernel_rfl) (congrArg (fun a => Value.slice a (queueM ps s.k).length c21) ha21) rfl ⟨by omega, by omega⟩) ?_
   refine q_val (v_load1o (v := I i) (by kernel_rfl) rfl (by simpa using hfi)) ?_
   refine q_val (v_idxS (size := 6) (k := .i64) (by kernel_rfl) (congrArg (fun a => Value.slice a h.pl h.pc) hpa) rfl ⟨by omega, by omega⟩) ?_
   refine q_val (v_field (fo := 2) (by kernel_rfl) rfl) ?_
   refine q_val (v_load1o (by kernel_rfl) rfl (hF21 _ _ (hmo _ _ (hc _ p hpi 2 _ rfl)))) ?_
   refine q_call (by kernel_rfl) (fun w hw => gr_MoveSum _ _ _ _ w) ?_
   refine q_tail ?_
   refine s_storeA (m := 42) (by kernel_rfl) rfl rfl .here (H.size _) (H.size _) (H.all1 _) ?_
   refine s_end ?_
   refine n_bnormal ?_
   refine n_then ?_
   refine r_list (by kernel_rfl) ?_
   refine s_val (v_add rfl rfl (by omega)) ?_
   refine s_val (v_move (v := .int .i64 _) rfl) ?_
   refine s_end ?_
   refine n_round (j + 1) ⟨_, (by omega), live8 rfl rfl rfl rfl rfl rfl rfl rfl⟩ (fun _ hw => by rw [moveQ_take hi hpi]; exact hw) (by omega)
 have hk4 : s.k = 4 := by have := of_decide_eq_false h17; omega
 refine c_exit ?_
 refine n_exit ?_
 refine n_exit ?_
 refine n_bhere ?_
 refine n_then ?_
 refine c_seq ?_
 refine r_seq (by kernel_rfl) ?_
 refine s_val (v_move (v := .int .i64 _) rfl) ?_
 refine s_nil ?_
 refine c_block ?_
 refine c_loop (σ := Nat) (fun (k : Nat) f => ∃ g, (k ≤ 4 ∧ ∀ b : Int, 0 ≤ b → b < k → n b = 0 ∨ okBank (movesTo h ps n 4) b = true) ∧ f = (upd (upd (upd (upd g 2 (.pointer (some ⟨b2, 0, none⟩))) 3 (.pointer (some ⟨b3, 0, none⟩))) 5 (.pointer (some ⟨b5, 0, none⟩))) 58 (I k))) (fun (k : Nat) => Has w s.F [(b5, .cells (movesTo h ps n 4).cells 29), (b3, .cells (rowA n) 25), (b2, .cells h.cells 29)]) (fun (k : Nat) => 4 - k) 0 ⟨_, ⟨Nat.zero_le _, fun b h0 h1 => by omega⟩, live4 rfl rfl rfl rfl⟩ (fun w hw => by rw [hk4] at hw; exact hw) ?_
 rintro k _ ⟨g, ⟨hkl2, hok⟩, rfl⟩
 refine r_seq (by kernel_rfl) ?_
 refine s_val (v_lss (k := .i64) rfl rfl) ?_
 refine s_nil ?_
 refine c_seq ?_
 refine c_condR rfl rfl (fun h59 => ?_) (fun h59 => ?_)
 · have hk0 := of_decide_eq_false h59
   refine c_exit ?_
   refine n_exit ?_
   refine n_exit ?_
   refine n_bhere ?_
   refine n_then ?_
   refine r_seq (by kernel_rfl) ?_
   refine s_val (v_assign (v := .bool _) rfl) ?_
   refine s_nil ?_
   refine c_ret ?_
   refine n_done rfl (by decide) (Eq.trans (b := .bool _) rfl (congrArg Value.bool ?_))
   exact (tog_all ((isHouse_eq hp.1).symm.trans h14) (fun b hb => hsz b hb.1 (by omega)) (fun b hb => hok b hb.1 (by omega))).symm
 have hk0 := of_decide_eq_true h59
 have hi : 0 ≤ (k : Int) ∧ (k : Int) < 4 := ⟨by omega, by omega⟩
 refine c_skip ?_
 refine n_then ?_
 refine c_seq ?_
 refine c_block ?_
 refine r_seq (by kernel_rfl) ?_
 refine s_val (v_move (v := .int .i64 _) rfl) ?_
 refine s_val (v_assign (v := .int .i64 _) rfl) ?_
 refine s_nil ?_
 refine c_seq ?_
 refine r_seq (by kernel_rfl) ?_
 refine s_val (v_move (v := .int .i64 _) rfl) ?_
 refine s_val (v_idxA (len := 4) (size := 1) (k := .i64) (by kernel_rfl) rfl rfl (by assumption)) ?_
 refine s_val (v_load1 (v := .int .i64 _) (by kernel_rfl) rfl (.there .here) (rowA_at0 _ (by assumption))) ?_
 refine s_val (v_eql (k := .i64) rfl rfl) ?_
 refine s_nil ?_
 refine c_cond rfl rfl (fun h64 => ?_) (fun h64 => ?_)
 · refine c_exit ?_
   refine n_exit ?_
   refine n_bhere ?_
   refine n_then ?_
   refine r_list (by kernel_rfl) ?_
   refine s_val (v_add rfl rfl (by omega)) ?_
   refine s_val (v_move (v := .int .i64 _) rfl) ?_
   refine s_end ?_
   refine n_round (k + 1) ⟨_, ⟨by omega, fun b h0 h1 => by
     by_cases e : b = (k : Int)
     · subst e; exact .inl (of_decide_eq_true h64)
     · exact hok b h0 (by omega)⟩, live4 rfl rfl rfl rfl⟩ (fun _ hw => hw) (by omega)
 refine c_skip ?_
 refine n_then ?_
 refine c_seq ?_
 refine d_seq (by kernel_rfl) (by kernel_rfl) (fun w hw => hw.drew) (by kernel_rfl) ?_
 refine q_val (v_move (v := .int .i64 _) rfl) ?_
 refine q_val (v_field (fo := 0) (by kernel_rfl) rfl) ?_
 refine q_val (v_idxA (len := 4) (size := 2) (k := .i64) (by kernel_rfl) rfl rfl (by assumption)) ?_
 refine q_val (v_field (fo := 0) (by kernel_rfl) rfl) ?_
 refine q_val (v_load1 (v := .int .i64 _) (by kernel_rfl) rfl .here (H.at_has _ (by assumption))) ?_
 refine q_val (v_move (v := .int .i64 _) rfl) ?_
 refine q_val (v_field (fo := 0) (by kernel_rfl) rfl) ?_
 refine q_val (v_idxA (len := 4) (size := 2) (k := .i64) (by kernel_rfl) rfl rfl (by assumption)) ?_
 refine q_val (v_field (fo := 1) (by kernel_rfl) rfl) ?_
 refine q_val (v_load1 (v := .int .i64 _) (by kernel_rfl) rfl .here (H.at_cred _ (by assumption))) ?_
 refine q_val (v_addw rfl rfl) ?_
 refine q_val (v_lss (k := .i64) rfl rfl) ?_
 refine q_nil ?_
 refine c_cond rfl rfl (fun h76 => ?_) (fun h76 => ?_)
 · refine r_seq (by kernel_rfl) ?_
   refine s_val (v_assign (v := .bool _) rfl) ?_
   refine s_nil ?_
   refine c_ret ?_
   refine n_ret ?_
   refine n_bret ?_
   refine n_ret ?_
   refine n_ret ?_
   refine n_bret ?_
   refine n_ret ?_
   refine n_done rfl (by decide) (Eq.trans (b := .bool _) rfl (congrArg Value.bool ?_))
   exact (tog_ok hi (of_decide_eq_false h64) (ok_left (of_decide_eq_true h76))).symm
 refine c_skip ?_
 refine n_then ?_
 refine r_seq (by kernel_rfl) ?_
 refine s_val (v_move (v := .int .i64 _) rfl) ?_
 refine s_nil ?_
 refine c_block ?_
 refine c_loop (σ := Nat) (fun (m : Nat) f => ∃ g, (m ≤ 4 ∧ ∀ t : Int, 0 ≤ t → t < m → ¬ (0 ≤ (movesTo h ps n 4).lim k t ∧ (movesTo h ps n 4).lim k t < wr ((movesTo h ps n 4).sent k t - (movesTo h ps n 4).sent t k))) ∧ f = (upd (upd (upd (upd (upd (upd g 2 (.pointer (some ⟨b2, 0, none⟩))) 3 (.pointer (some ⟨b3, 0, none⟩))) 5 (.pointer (some ⟨b5, 0, none⟩))) 9 (I k)) 58 (I k)) 77 (I m))) (fun (m : Nat) => Has w s.F [(b5, .cells (movesTo h ps n 4).cells 29), (b3, .cells (rowA n) 25), (b2, .cells h.cells 29)]) (fun (m : Nat) => 4 - m) 0 ⟨_, ⟨Nat.zero_le _, fun t h0 h1 => by omega⟩, live6 rfl rfl rfl rfl rfl rfl⟩ (fun w hw => hw) ?_
 rintro m _ ⟨g, ⟨hml, hlm⟩, rfl⟩
 refine r_seq (by kernel_rfl) ?_
 refine s_val (v_lss (k := .i64) rfl rfl) ?_
 refine s_nil ?_
 refine c_seq ?_
 refine c_condR rfl rfl (fun h78 => ?_) (fun h78 => ?_)
 · have hm0 := of_decide_eq_false h78
   refine c_exit ?_
   refine n_exit ?_
   refine n_exit ?_
   refine n_bhere ?_
   refine n_bnormal ?_
   refine n_then ?_
   refine r_list (by kernel_rfl) ?_
   refine s_val (v_add rfl rfl (by omega)) ?_
   refine s_val (v_move (v := .int .i64 _) rfl) ?_
   refine s_end ?_
   refine n_round (k + 1) ⟨_, ⟨by omega, fun b h0 h1 => by
     by_cases e : b = (k : Int)
     · subst e; exact .inr (ok_all (of_decide_eq_false h76) (fun t ht => hlm t ht.1 (by omega)))
     · exact hok b h0 (by omega)⟩, live4 rfl rfl rfl rfl⟩ (fun _ hw => hw) (by omega)
 have hm0 := of_decide_eq_true h78
 have hm : 0 ≤ (m : Int) ∧ (m : Int) < 4 := ⟨by omega, by omega⟩
 refine c_skip ?_
 refine n_then ?_
 refine c_seq ?_
 refine c_block ?_
 refine r_seq (by kernel_rfl) ?_
 refine s_val (v_move (v := .int .i64 _) rfl) ?_
 refine s_val (v_assign (v := .int .i64 _) rfl) ?_
 refine s_nil ?_
 refine r_seq (by kernel_rfl) ?_
 refine s_val (v_move (v := .int .i64 _) rfl) ?_
 refine s_val (v_move (v := .int .i64 _) rfl) ?_
 refine s_val (v_field (fo := 24) (by kernel_rfl) rfl) ?_
 refine s_val (v_idxA (len := 4) (size := 4) (k := .i64) (by kernel_rfl) rfl rfl (by assumption)) ?_
 refine s_val (v_idxA (len := 4) (size := 1) (k := .i64) (by kernel_rfl) rfl rfl (by assumption)) ?_
 refine s_val (v_load1 (v := .int .i64 _) (by kernel_rfl) rfl .here (H.at_lim _ (by assumption) (by assumption))) ?_
 refine s_val (v_assign (v := .int .i64 _) rfl) ?_
 refine s_nil ?_
 refine d_seq (by kernel_rfl) (by kernel_rfl) (fun w hw => hw.drew) (by kernel_rfl) ?_
 refine q_val (v_move (v := .int .i64 _) rfl) ?_
 refine q_val (v_geq (k := .i64) rfl rfl) ?_
 refine q_val (v_move (v := .bool _) rfl) ?_
 refine q_splitR (s := 88) rfl (fun h88 => ?_) (fun h88 => ?_)
 · refine q_pass rfl rfl h88 ?_
   refine q_pass rfl rfl h88 ?_
   refine q_pass rfl rfl h88 ?_
   refine q_pass rfl rfl h88 ?_
   refine q_pass rfl rfl h88 ?_
   refine q_pass rfl rfl h88 ?_
   refine q_pass rfl rfl h88 ?_
   refine q_pass rfl rfl h88 ?_
   refine q_pass rfl rfl h88 ?_
   refine q_pass rfl rfl h88 ?_
   refine q_pass rfl rfl h88 ?_
   refine q_pass rfl rfl h88 ?_
   refine q_pass rfl rfl h88 ?_
   refine q_pass rfl rfl h88 ?_
   refine q_pass rfl rfl h88 ?_
   refine q_val (v_pickF (v := .bool _) rfl h88 rfl) ?_
   refine q_nil ?_
   refine c_condFh rfl rfl rfl ?_
   refine c_skip ?_
   refine n_bnormal ?_
   refine n_then ?_
   refine r_list (by kernel_rfl) ?_
   refine s_val (v_add rfl rfl (by omega)) ?_
   refine s_val (v_move (v := .int .i64 _) rfl) ?_
   refine s_end ?_
   refine n_round (m + 1) ⟨_, ⟨by omega, fun t h0 h1 => by
     by_cases e : t = (m : Int)
     · subst e; exact fun h => absurd h.1 (of_decide_eq_false h88)
     · exact hlm t h0 (by omega)⟩, live6 rfl rfl rfl rfl rfl rfl⟩ (fun _ hw => hw) (by omega)
 refine q_want rfl rfl h88 ?_
 refine q_val (v_move (v := .int .i64 _) rfl) ?_
 refine q_want rfl rfl h88 ?_
 refine q_val (v_move (v := .int .i64 _) rfl) ?_
 refine q_want rfl rfl h88 ?_
 refine q_val (v_field (fo := 8) (by kernel_rfl) rfl) ?_
 refine q_want rfl rfl h88 ?_
 refine q_val (v_idxA (len := 4) (size := 4) (k := .i64) (by kernel_rfl) rfl rfl (by assumption)) ?_
 refine q_want rfl rfl h88 ?_
 refine q_val (v_idxA (len := 4) (size := 1) (k := .i64) (by kernel_rfl) rfl rfl (by assumption)) ?_
 refine q_want rfl rfl h88 ?_
 refine q_val (v_load1 (v := .int .i64 _) (by kernel_rfl) rfl .here (H.at_sent _ (by assumption) (by assumption))) ?_
 refine q_want rfl rfl h88 ?_
 refine q_val (v_move (v := .int .i64 _) rfl) ?_
 refine q_want rfl rfl h88 ?_
 refine q_val (v_move (v := .int .i64 _) rfl) ?_
 refine q_want rfl rfl h88 ?_
 refine q_val (v_field (fo := 8) (by kernel_rfl) rfl) ?_
 refine q_want rfl rfl h88 ?_
 refine q_val (v_idxA (len := 4) (size := 4) (k := .i64) (by kernel_rfl) rfl rfl (by assumption)) ?_
 refine q_want rfl rfl h88 ?_
 refine q_val (v_idxA (len := 4) (size := 1) (k := .i64) (by kernel_rfl) rfl rfl (by assumption)) ?_
 refine q_want rfl rfl h88 ?_
 refine q_val (v_load1 (v := .int .i64 _) (by kernel_rfl) rfl .here (H.at_sent _ (by assumption) (by assumption))) ?_
 refine q_want rfl rfl h88 ?_
 refine q_val (v_subw rfl rfl) ?_
 refine q_want rfl rfl h88 ?_
 refine q_val (v_move (v := .int .i64 _) rfl) ?_
 refine q_want rfl rfl h88 ?_
 refine q_val (v_gtr (k := .i64) rfl rfl) ?_
 refine q_val (v_pickT (v := .bool _) rfl h88 rfl) ?_
 refine q_nil ?_
 refine c_condR rfl rfl (fun h104 => ?_) (fun h104 => ?_)
 · refine c_skip ?_
   refine n_bnormal ?_
   refine n_then ?_
   refine r_list (by kernel_rfl) ?_
   refine s_val (v_add rfl rfl (by omega)) ?_
   refine s_val (v_move (v := .int .i64 _) rfl) ?_
   refine s_end ?_
   refine n_round (m + 1) ⟨_, ⟨by omega, fun t h0 h1 => by
     by_cases e : t = (m : Int)
     · subst e; exact fun h => absurd h.2 (of_decide_eq_false h104)
     · exact hlm t h0 (by omega)⟩, live6 rfl rfl rfl rfl rfl rfl⟩ (fun _ hw => hw) (by omega)
 refine r_seq (by kernel_rfl) ?_
 refine s_val (v_assign (v := .bool _) rfl) ?_
 refine s_nil ?_
 refine c_ret ?_
 refine n_bret ?_
 refine n_ret ?_
 refine n_ret ?_
 refine n_bret ?_
 refine n_bret ?_
 refine n_ret ?_
 refine n_ret ?_
 refine n_bret ?_
 refine n_ret ?_
 refine n_done rfl (by decide) (Eq.trans (b := .bool _) rfl (congrArg Value.bool ?_))
 exact (tog_ok hi (of_decide_eq_false h64) (ok_lim hm (of_decide_eq_true h88) (of_decide_eq_true h104))).symm
end Go.Proofs.YtmkboljfbmlebaaGreat
