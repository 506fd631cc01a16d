/- What the laws of this place stand on, part 5. Each part names its own conditions in what it states. -/
import Derived.Test.YtmkboljfbmlebabQ4
import Derived.Test.YtmkboljfbmlebabRows
namespace Go.Proofs.Ytmkboljfbmlebab
open Go.RowKit
set_option linter.unusedSimpArgs false
set_option linter.unusedVariables false
def ActsAt (F : Addr → Value → Prop) (a : Option Addr) (xs : List ActS) : Prop := xs = [] ∨ ∃ b o, a = some ⟨b, o, none⟩ ∧ ∀ (j : Nat) (x : ActS), xs[j]? = some x → ∀ (k : Nat) (v : Value), x.cells[k]? = some v → F ⟨b, o + j * 5 + k, none⟩ v
theorem ActsIn.at {F : Addr → Value → Prop} {v : Value} {xs : List ActS} (h : ActsIn F v xs) : ∃ a c, v = .slice a xs.length c ∧ ActsAt F a xs := by
 obtain ⟨a, c, h1, _, h3⟩ := h
 exact ⟨a, c, h1, h3⟩
theorem ActsAt.mono {F F' : Addr → Value → Prop} {a : Option Addr} {xs : List ActS} (h : ActsAt F a xs) (hm : More F F') : ActsAt F' a xs := by
 rcases h with h | ⟨b, o, h1, h2⟩
 · exact .inl h
 · exact .inr ⟨b, o, h1, fun j x hj k v hv => hm _ _ (h2 j x hj k v hv)⟩
theorem ActsAt.at {w0 w : World} {F : Addr → Value → Prop} {L : List (Nat × Obj)} {a : Option Addr} {xs : List ActS} (h : ActsAt F a xs) (hw : Has w0 F L w) : ActsAt (At w) a xs := h.mono hw.at
theorem ActsAt.get {F : Addr → Value → Prop} {a : Option Addr} {xs : List ActS} (h : ActsAt F a xs) {j : Nat} (hj : j < xs.length) : ∃ b o x, a = some ⟨b, o, none⟩ ∧ xs[j]? = some x ∧ ∀ (k : Nat) (v : Value), x.cells[k]? = some v → F ⟨b, o + j * 5 + k, none⟩ v := by
 rcases h with rfl | ⟨b, o, h1, h2⟩
 · simp at hj
 · exact ⟨b, o, xs[j], h1, by simp [hj], h2 j _ (by simp [hj])⟩
def ActS.list (x : ActS) : List Int := [x.kind, x.a, x.b, x.c, x.n]
theorem ActS.cells_list (x : ActS) : x.cells = ((ActS.list x).map I).toArray := rfl
theorem bytes_byt {xs : List ActS} (h : ∀ x ∈ xs, noted x = true) : Byt (bytesOf xs) := fun b hb => by
 obtain ⟨x, hx, hbx⟩ := List.mem_flatMap.1 hb
 exact frame_byte (h x hx) b hbx
end Go.Proofs.Ytmkboljfbmlebab
namespace Go.Proofs.Ytmkboljfbmlebab
open Go.RowKit
set_option linter.unusedSimpArgs false
set_option linter.unusedVariables false
def total (c : H) : Int := c.has 0 + c.has 1 + c.has 2 + c.has 3
theorem total_sum {c : H} (g : GoodH c) : sumM c = total c := by
 have h0 := g.has 0 (by omega)
 have h1 := g.has 1 (by omega)
 have h2 := g.has 2 (by omega)
 have h3 := g.has 3 (by omega)
 unfold sumM total
 rw [wr_in (a := 0 + c.has 0) (by omega) (by omega), wr_in (a := 0 + c.has 0 + c.has 1) (by omega) (by omega), wr_in (a := 0 + c.has 0 + c.has 1 + c.has 2) (by omega) (by omega), wr_in (by omega) (by omega)]
 omega
theorem total_settle {k : Int} {c : H} {ps : List PayS} (v : Inv k c ps) (hk : k ≤ 1000) (n : Int) : total (settleC c ps n) = total c := by
 cases hs : settles ps n with
 | none => simp only [settleC, hs]
 | some p =>
   obtain ⟨_, hp, _⟩ := settles_spec hs
   have ht := pay_transfer (v.goodPs p (List.mem_of_getElem? hp))
   obtain ⟨ha, hb, hne, _, _⟩ := transfer_spec ht
   have ec : settleC c ps n = moveM c p.src p.dst p.amt := by simp only [settleC, hs]
   rw [ec, move_at (v.house hk).near (by omega) ht]
   unfold total
   simp only [up1]
   have hs4 : p.src = 0 ∨ p.src = 1 ∨ p.src = 2 ∨ p.src = 3 := by omega
   have hd4 : p.dst = 0 ∨ p.dst = 1 ∨ p.dst = 2 ∨ p.dst = 3 := by omega
   rcases hs4 with e | e | e | e <;> rcases hd4 with f | f | f | f <;> simp only [e, f] at * <;> simp <;> omega
theorem total_chain {k : Int} (hk : k ≤ 1000) : ∀ (xs : List Int) {c : H} {ps : List PayS}, Inv k c ps → total (chainC c ps xs) = total c
 | [], _, _, _ => rfl
 | i :: r, c, ps, v => by
   simp only [chainC]
   rw [total_chain hk r (v.settle hk i), total_settle v hk i]
theorem total_sweep {k : Int} {c : H} {ps : List PayS} (v : Inv k c ps) (hk : k ≤ 1000) : total (sweepM c ps).c = total c := by
 rw [(sweepM_goes (v.good hk)).2.1]; exact total_chain hk _ v
def extOf (a : ActS) (code : Int) : Int := if code = 0 ∧ a.kind = 6 then a.n else if code = 0 ∧ a.kind = 7 then -a.n else 0
theorem ext_err {a : ActS} {e : Int} (h : e ≠ 0) : extOf a e = 0 := by unfold extOf; rw [if_neg (fun h' => h h'.1), if_neg (fun h' => h h'.1)]
theorem ext_no {a : ActS} {e : Int} (h6 : a.kind ≠ 6) (h7 : a.kind ≠ 7) : extOf a e = 0 := by unfold extOf; rw [if_neg (fun h' => h6 h'.2), if_neg (fun h' => h7 h'.2)]
theorem ext_fund {a : ActS} (h6 : a.kind = 6) : extOf a 0 = a.n := by unfold extOf; rw [if_pos ⟨rfl, h6⟩]
theorem ext_spend {a : ActS} (h7 : a.kind = 7) : extOf a 0 = -a.n := by unfold extOf; rw [if_neg (fun h' => by omega), if_pos ⟨rfl, h7⟩]
theorem total_act {k : Int} {c : H} {ps : List PayS} (v : Inv k c ps) (hk : k ≤ 900) {a : ActS} {r : NR} (s : Step c ps a r) : total r.c = total c + extOf a r.code := by
 cases s with
 | err e he =>
   show total c = total c + extOf a e
   rw [ext_err he]; omega
 | close h1 =>
   show total c = total c + extOf a 0
   rw [ext_no (by omega) (by omega)]; omega
 | mid m =>
   rename_i c1 ps1 n d
   have e := total_sweep (v.mid hk m) (by omega)
   show total (sweepM c1 ps1).c = total c + extOf a 0
   rw [e]
   cases m with
   | pay h1 hp hl hn => rw [ext_no (by omega) (by omega)]; simp [total]
   | gone p h1 hs => rw [ext_no (by omega) (by omega)]; simp [total]
   | cls p h1 hs hc hn => rw [ext_no (by omega) (by omega)]; simp [total]
   | cred h1 ha hn => rw [ext_no (by omega) (by omega)]; simp [total]
   | lim h1 ha hb hne hn => rw [ext_no (by omega) (by omega)]; simp [total]
   | fund h1 ha hn =>
     rw [ext_fund h1]
     have h4 : a.a = 0 ∨ a.a = 1 ∨ a.a = 2 ∨ a.a = 3 := by omega
     unfold total up1
     rcases h4 with e | e | e | e <;> simp only [e] <;> simp <;> omega
   | spend h1 ha hn hl =>
     rw [ext_spend h1]
     have h4 : a.a = 0 ∨ a.a = 1 ∨ a.a = 2 ∨ a.a = 3 := by omega
     unfold total up1
     rcases h4 with e | e | e | e <;> simp only [e] <;> simp <;> omega
   | untie h1 =>
     rw [ext_no (by omega) (by omega)]
     have := total_chain (k := k) (by omega) (untieXs c ps) v
     show total (chainC c ps (untieXs c ps)) = _
     omega
def left (c : H) (i : Int) : Int := c.has i + c.cred i
def net (c : H) (i j : Int) : Int := c.sent i j - c.sent j i
structure NW (c d : H) : Prop where
 left : ∀ i : Int, 0 ≤ i ∧ i < 4 → 0 ≤ left d i ∨ left c i ≤ left d i
 net : ∀ i j : Int, 0 ≤ i ∧ i < 4 → 0 ≤ j ∧ j < 4 → d.lim i j < 0 ∨ net d i j ≤ d.lim i j ∨ net d i j ≤ net c i j
 cred : d.cred = c.cred
 lim : d.lim = c.lim
theorem NW.refl (c : H) : NW c c := ⟨fun _ _ => .inr (Int.le_refl _), fun _ _ _ _ => .inr (.inr (Int.le_refl _)), rfl, rfl⟩
theorem NW.trans {c d e : H} (h : NW c d) (k : NW d e) : NW c e := by
 refine ⟨fun i hi => ?_, fun i j hi hj => ?_, k.cred.trans h.cred, k.lim.trans h.lim⟩
 · have h1 := h.left i hi
   have h2 := k.left i hi
   omega
 · have h1 := h.net i j hi hj
   have h2 := k.net i j hi hj
   have e1 : e.lim i j = d.lim i j := by rw [k.lim]
   omega
theorem nw_settle {k : Int} {c : H} {ps : List PayS} (v : Inv k c ps) (hk : k ≤ 1000) {b i : Int} (hf : firstM c ps b = some i) : NW c (settleC c ps i) := by
 obtain ⟨p, r, _, hs, hsrc, hm⟩ := firstM_spec hf
 obtain ⟨_, hp, _⟩ := settles_spec hs
 have ht := pay_transfer (v.goodPs p (List.mem_of_getElem? hp))
 obtain ⟨ha, hb, hne, h1, h2⟩ := transfer_spec ht
 have g := v.house hk
 rw [← hsrc, ← may_eq g] at hm
 have ec : settleC c ps i = moveM c p.src p.dst p.amt := by simp only [settleC, hs]
 have hl : p.amt ≤ c.has p.src + c.cred p.src ∧ (c.lim p.src p.dst = -1 ∨ c.sent p.src p.dst - c.sent p.dst p.src + p.amt ≤ c.lim p.src p.dst) := by
   rw [may_eq g] at hm
   unfold maySendM at hm
   have e1 := g.has _ ha
   have e2 := g.cred _ ha
   have e3 := g.sent _ _ ha hb
   have e4 := g.sent _ _ hb ha
   have e5 := g.lim _ _ ha hb
   rw [ht, wr_in (a := c.has p.src - p.amt) (by omega) (by omega), wr_in (a := 0 - c.cred p.src) (by omega) (by omega), wr_in (a := c.sent p.src p.dst - c.sent p.dst p.src) (by omega) (by omega), wr_in (by omega) (by omega)] at hm
   cases hd : decide (c.has p.src - p.amt < 0 - c.cred p.src)
   · rw [hd] at hm
     simp at hm hd
     exact ⟨by omega, by omega⟩
   · rw [hd] at hm
     simp at hm
 rw [ec, move_at g.near (by omega) ht]
 refine ⟨fun j hj => ?_, fun x y hx hy => ?_, rfl, rfl⟩
 · unfold Proofs.Ytmkboljfbmlebab.left
   simp only [up1]
   by_cases e : j = p.dst
   · rw [if_pos e, e]; right; omega
   · rw [if_neg e]
     by_cases e2 : j = p.src
     · rw [if_pos e2, e2]; left; omega
     · rw [if_neg e2]; right; omega
 · unfold Proofs.Ytmkboljfbmlebab.net
   simp only [up2]
   by_cases e : x = p.src ∧ y = p.dst
   · have e1 := e.1
     have e2 := e.2
     rw [if_pos e, if_neg (by rintro ⟨h3, _⟩; omega), e1, e2]
     omega
   · rw [if_neg e]
     right; right
     split
     · rename_i e3; rw [e3.1, e3.2]; omega
     · omega
theorem nw_chain {k : Int} (hk : k ≤ 1000) : ∀ (xs : List Int) {c : H} {ps : List PayS}, Inv k c ps → Chain c ps xs → NW c (chainC c ps xs)
 | [], c, _, _, _ => NW.refl c
 | i :: r, c, ps, v, h => by
   obtain ⟨⟨b, _, hf⟩, h2⟩ := h
   exact (nw_settle v hk hf).trans (nw_chain hk r (v.settle hk i) h2)
theorem nw_sweep {k : Int} {c : H} {ps : List PayS} (v : Inv k c ps) (hk : k ≤ 1000) : NW c (sweepM c ps).c := by
 obtain ⟨h1, h2, _⟩ := sweepM_goes (v.good hk)
 rw [h2]; exact nw_chain hk _ v h1
theorem nw_untie {k : Int} {c : H} {ps : List PayS} (v : Inv k c ps) (hk : k ≤ 1000) : NW c (untieM c ps).c := by
 have hg := v.good hk
 have st : StandsAt c ps (mostM c ps) (untieM c ps).c := by
   have e : (untieM c ps).c = movesTo c ps (mostM c ps) 4 := untie_moves c ps (mostM c ps)
   rw [e]; exact moves_spec hg _
 have hp := (mostM_is hg).poss
 have hgp := (good_pays hg).1
 refine ⟨fun i hi => ?_, fun i j hi hj => ?_, st.cred, st.lim⟩
 · have e1 := st.has i hi
   unfold Proofs.Ytmkboljfbmlebab.left
   rw [st.cred, e1]
   by_cases hm : mostM c ps i = 0
   · right
     have e2 : firsts ps (mostM c ps) i = [] := by unfold firsts; rw [hm]; rfl
     have e3 := inS_mono hgp (n := fun _ => 0) (m := mostM c ps) (fun b hb => (hp.size b hb).1) i
     have e4 : inS ps (fun _ => 0) i = 0 := by simp [inS, firsts, toS]
     rw [e2]
     simp only [outS]
     omega
   · left
     have := hp.left i hi hm
     omega
 · unfold Proofs.Ytmkboljfbmlebab.net
   rw [st.lim, st.sent i j hi hj, st.sent j i hj hi]
   by_cases hm : mostM c ps i = 0
   · right; right
     have e2 : firsts ps (mostM c ps) i = [] := by unfold firsts; rw [hm]; rfl
     have e4 := in_mono hgp (n := fun _ => 0) (m := mostM c ps) (fun b hb => (hp.size b hb).1) j i hj
     have e7 : toS ps i (firsts ps (fun _ => 0) j) = 0 := by simp [firsts, toS]
     rw [e2]
     simp only [toS]
     omega
   · by_cases hl : 0 ≤ c.lim i j
     · right; left
       exact hp.lim i j hi hj hm hl
     · left; omega
theorem bounds_act {k : Int} {c : H} {ps : List PayS} (v : Inv k c ps) (hk : k ≤ 900) {a : ActS} {r : NR} (s : Step c ps a r) :
   (∀ i : Int, 0 ≤ i ∧ i < 4 → r.c.cred i ≠ c.cred i ∨ 0 ≤ left r.c i ∨ left c i ≤ left r.c i) ∧ ∀ i j : Int, 0 ≤ i ∧ i < 4 → 0 ≤ j ∧ j < 4 → r.c.lim i j < 0 ∨ net r.c i j ≤ r.c.lim i j ∨ net r.c i j ≤ net c i j := by
 have plain : ∀ {d : H}, NW c d → (∀ i : Int, 0 ≤ i ∧ i < 4 → d.cred i ≠ c.cred i ∨ 0 ≤ left d i ∨ left c i ≤ left d i) ∧ ∀ i j : Int, 0 ≤ i ∧ i < 4 → 0 ≤ j ∧ j < 4 → d.lim i j < 0 ∨ net d i j ≤ d.lim i j ∨ net d i j ≤ net c i j :=
   fun h => ⟨fun i hi => .inr (h.left i hi), h.net⟩
 cases s with
 | err e he => exact plain (NW.refl c)
 | close h1 => exact plain (NW.refl c)
 | mid m =>
   rename_i c1 ps1 n d
   have w := nw_sweep (v.mid hk m) (show k + 1 ≤ 1000 by omega)
   simp only [sweepN]
   have key : (∀ i : Int, 0 ≤ i ∧ i < 4 → c1.cred i ≠ c.cred i ∨ 0 ≤ left c1 i ∨ left c i ≤ left c1 i) → (∀ i j : Int, 0 ≤ i ∧ i < 4 → 0 ≤ j ∧ j < 4 → c1.lim i j < 0 ∨ net c1 i j ≤ c1.lim i j ∨ net c1 i j ≤ net c i j) → _ := fun h1 h2 =>
     (⟨fun i hi => by
       have a1 := h1 i hi
       have a2 := w.left i hi
       have a3 : (sweepM c1 ps1).c.cred i = c1.cred i := by rw [w.cred]
       omega, fun i j hi hj => by
       have a1 := h2 i j hi hj
       have a2 := w.net i j hi hj
       have a3 : (sweepM c1 ps1).c.lim i j = c1.lim i j := by rw [w.lim]
       omega⟩ : (∀ i : Int, 0 ≤ i ∧ i < 4 → (sweepM c1 ps1).c.cred i ≠ c.cred i ∨ 0 ≤ left (sweepM c1 ps1).c i ∨ left c i ≤ left (sweepM c1 ps1).c i) ∧ ∀ i j : Int, 0 ≤ i ∧ i < 4 → 0 ≤ j ∧ j < 4 → (sweepM c1 ps1).c.lim i j < 0 ∨ net (sweepM c1 ps1).c i j ≤ (sweepM c1 ps1).c.lim i j ∨ net (sweepM c1 ps1).c i j ≤ net c i j)
   have same2 : ∀ i j : Int, 0 ≤ i ∧ i < 4 → 0 ≤ j ∧ j < 4 → c.lim i j < 0 ∨ net c i j ≤ c.lim i j ∨ net c i j ≤ net c i j := fun _ _ _ _ => .inr (.inr (Int.le_refl _))
   have same1 : ∀ i : Int, 0 ≤ i ∧ i < 4 → c.cred i ≠ c.cred i ∨ 0 ≤ left c i ∨ left c i ≤ left c i := fun _ _ => .inr (.inr (Int.le_refl _))
   cases m with
   | pay h1 hp hl hn => exact key same1 same2
   | gone p h1 hs => exact key same1 same2
   | cls p h1 hs hc hn => exact key same1 same2
   | cred h1 ha hn =>
     refine key (fun i hi => ?_) same2
     unfold Proofs.Ytmkboljfbmlebab.left
     simp only [up1]
     by_cases e : i = a.a
     · rw [if_pos e]
       by_cases e2 : a.n = c.cred i
       · right; right; rw [e2]; exact Int.le_refl _
       · exact .inl e2
     · rw [if_neg e]; exact .inr (.inr (Int.le_refl _))
   | lim h1 ha hb hne hn => exact key same1 (fun i j hi hj => .inr (.inr (Int.le_refl _)))
   | fund h1 ha hn =>
     refine key (fun i hi => ?_) same2
     unfold Proofs.Ytmkboljfbmlebab.left
     simp only [up1]
     split
     · rename_i e; subst e; omega
     · omega
   | spend h1 ha hn hl =>
     refine key (fun i hi => ?_) same2
     unfold Proofs.Ytmkboljfbmlebab.left
     simp only [up1]
     split
     · rename_i e; subst e; omega
     · omega
   | untie h1 =>
     have u := nw_untie v (show k ≤ 1000 by omega)
     exact key (fun i hi => .inr (u.left i hi)) u.net
end Go.Proofs.Ytmkboljfbmlebab
namespace Go.Proofs.Ytmkboljfbmlebab
open Go.RowKit
set_option linter.unusedSimpArgs false
set_option linter.unusedVariables false
structure BankS where
 c : H
 ps : List PayS
 text : List Nat
 down : Bool
 fail : Int
 acts : Nat
structure RepS where
 code : Int
 n : Int
 done : List Int
def errR (e : Int) : RepS := ⟨e, 0, []⟩
def NR.rep (r : NR) : RepS := ⟨r.code, r.n, r.done⟩
noncomputable def replayFrom (x : H × List PayS) (l : List ActS) : H × List PayS := l.foldl (fun x a => ((nextM x.1 x.2 a).c, (nextM x.1 x.2 a).ps)) x
noncomputable def replayM (l : List ActS) : H × List PayS := replayFrom (newM.core, []) l
theorem replay_snoc (l : List ActS) (a : ActS) : replayM (l ++ [a]) = ((nextM (replayM l).1 (replayM l).2 a).c, (nextM (replayM l).1 (replayM l).2 a).ps) := by
 simp [replayM, replayFrom, List.foldl_append]
def newB : BankS := ⟨newM.core, [], [], false, -1, 0⟩
noncomputable def doM (s : BankS) (a : ActS) : BankS × RepS :=
 bif decide (s.acts = 200) then (s, errR 5)
 else bif decide (a.kind = 11) then
   bif !s.down then ({ s with acts := s.acts + 1 }, errR 2)
   else ({ s with acts := s.acts + 1, c := (replayM (readM s.text)).1, ps := (replayM (readM s.text)).2, text := bytesOf (readM s.text), down := false }, ⟨0, (readM s.text).length, []⟩)
 else bif s.down then ({ s with acts := s.acts + 1 }, errR 7)
 else bif decide (a.kind = 10) then
   bif !withinB a.n 0 4000 then ({ s with acts := s.acts + 1 }, errR 3) else ({ s with acts := s.acts + 1, fail := a.n }, errR 0)
 else bif !decide ((nextM s.c s.ps a).code = 0) then ({ s with acts := s.acts + 1 }, (nextM s.c s.ps a).rep)
 else bif !noted a then ({ s with acts := s.acts + 1 }, errR 3)
 else bif decide (4000 < s.text.length + (frameOf a).length) then ({ s with acts := s.acts + 1 }, errR 5)
 else bif decide (0 ≤ s.fail) then ({ s with acts := s.acts + 1, text := s.text ++ (frameOf a).take s.fail.toNat, down := true, fail := -1 }, errR 7)
 else ({ s with acts := s.acts + 1, text := s.text ++ frameOf a, c := (nextM s.c s.ps a).c, ps := (nextM s.c s.ps a).ps }, (nextM s.c s.ps a).rep)
structure BInv (s : BankS) (log : List ActS) (lost : Option (ActS × Nat)) : Prop where
 noted : ∀ x ∈ log, noted x = true
 house : (s.c, s.ps) = replayM log
 up : s.down = false → s.text = bytesOf log ∧ lost = none
 low : s.down = true → ∃ a m, lost = some (a, m) ∧ Proofs.Ytmkboljfbmlebab.noted a = true ∧ s.text = bytesOf log ++ (frameOf a).take m ∧ s.fail = -1
 len : s.text.length ≤ 4000
theorem newB_inv : BInv newB [] none where
 noted := fun x hx => by cases hx
 house := rfl
 up := fun _ => ⟨rfl, rfl⟩
 low := fun h => by cases h
 len := by simp [newB]
theorem bytes_app (l r : List ActS) : bytesOf (l ++ r) = bytesOf l ++ bytesOf r := by simp [bytesOf]
theorem bytes_one (a : ActS) : bytesOf [a] = frameOf a := by simp [bytesOf]
theorem read_lost {log : List ActS} {a : ActS} {m : Nat} (hl : ∀ x ∈ log, noted x = true) (ha : noted a = true) : readM (bytesOf log ++ (frameOf a).take m) = log ∨ readM (bytesOf log ++ (frameOf a).take m) = log ++ [a] := by
 rcases Nat.lt_or_ge m (frameOf a).length with h | h
 · refine .inl (readM_all log hl _ fun y hy => ?_)
   have h1 := first_cut ha (l := (frameOf a).take m) (List.take_prefix _ _) (by simp; omega)
   exact (first_none _).1 h1 y hy
 · right
   rw [List.take_of_length_le h, ← bytes_one a, ← bytes_app]
   exact readM_self fun x hx => by
     rcases List.mem_append.1 hx with hx | hx
     · exact hl x hx
     · simp at hx; subst hx; exact ha
inductive DoStep (s : BankS) (log : List ActS) (lost : Option (ActS × Nat)) (a : ActS) : BankS → RepS → List ActS → Option (ActS × Nat) → Prop
 | full : s.acts = 200 → DoStep s log lost a s (errR 5) log lost
 | same (r : RepS) : s.acts ≠ 200 → r.code ≠ 0 → r.n = 0 → r.done = [] → (r.code = 7 ↔ s.down = true) → (s.down = true → a.kind ≠ 11) → DoStep s log lost a { s with acts := s.acts + 1 } r log lost
 | opened (log' : List ActS) : s.acts ≠ 200 → s.down = true → a.kind = 11 → (∀ x m, lost = some (x, m) → log' = log ∨ log' = log ++ [x]) → DoStep s log lost a { s with acts := s.acts + 1, c := (replayM log').1, ps := (replayM log').2, text := bytesOf log', down := false } ⟨0, log'.length, []⟩ log' none
 | failing : s.acts ≠ 200 → s.down = false → a.kind = 10 → (0 ≤ a.n ∧ a.n ≤ 4000) → DoStep s log lost a { s with acts := s.acts + 1, fail := a.n } (errR 0) log lost
 | fell (m : Nat) : s.acts ≠ 200 → s.down = false → a.kind ≠ 10 → a.kind ≠ 11 → 0 ≤ s.fail → m = s.fail.toNat → (nextM s.c s.ps a).code = 0 → noted a = true → DoStep s log lost a { s with acts := s.acts + 1, text := s.text ++ (frameOf a).take m, down := true, fail := -1 } (errR 7) log (some (a, m))
 | went : s.acts ≠ 200 → s.down = false → a.kind ≠ 10 → a.kind ≠ 11 → ¬ 0 ≤ s.fail → (nextM s.c s.ps a).code = 0 → noted a = true → DoStep s log lost a { s with acts := s.acts + 1, text := s.text ++ frameOf a, c := (nextM s.c s.ps a).c, ps := (nextM s.c s.ps a).ps } (nextM s.c s.ps a).rep (log ++ [a]) none
theorem next_code (c : H) (ps : List PayS) (a : ActS) : (nextM c ps a).code ≤ 6 := by
 unfold nextM
 simp only [Bool.cond_eq_ite]
 repeat' split
 all_goals simp [errN, sweepN]
theorem next_refused {c : H} {ps : List PayS} {a : ActS} (h : ¬ (nextM c ps a).code = 0) : (nextM c ps a).n = 0 ∧ (nextM c ps a).done = [] ∧ (nextM c ps a).code ≠ 7 := by
 have s := next_step c ps a
 have hc := next_code c ps a
 generalize nextM c ps a = r at s h hc
 refine ⟨?_, ?_, by omega⟩
 all_goals
   cases s with
   | err e he => rfl
   | close h1 => exact absurd rfl h
   | mid m => exact absurd rfl h
theorem do_step {s : BankS} {log : List ActS} {lost : Option (ActS × Nat)} (v : BInv s log lost) (a : ActS) : ∃ log' lost', DoStep s log lost a (doM s a).1 (doM s a).2 log' lost' ∧ BInv (doM s a).1 log' lost' := by
 have tick : BInv { s with acts := s.acts + 1 } log lost := ⟨v.noted, v.house, v.up, v.low, v.len⟩
 by_cases h200 : s.acts = 200
 · have e : doM s a = (s, errR 5) := by simp [doM, h200]
   rw [e]
   exact ⟨log, lost, .full h200, v⟩
 by_cases hk : a.kind = 11
 · cases hd : s.down with
   | false =>
     have e : doM s a = ({ s with acts := s.acts + 1 }, errR 2) := by simp [doM, h200, hk, hd]
     rw [e]
     exact ⟨log, lost, .same _ h200 (by simp [errR]) rfl rfl (by simp [errR, hd]) (by simp [hd]), tick⟩
   | true =>
     obtain ⟨x, m, hl, hx, ht, hf⟩ := v.low hd
     have e : doM s a = ({ s with acts := s.acts + 1, c := (replayM (readM s.text)).1, ps := (replayM (readM s.text)).2, text := bytesOf (readM s.text), down := false }, ⟨0, (readM s.text).length, []⟩) := by simp [doM, h200, hk, hd]
     rw [e]
     refine ⟨readM s.text, none, .opened _ h200 hd hk (fun y k hy => ?_), (readM_bytes s.text).2, rfl, fun _ => ⟨rfl, rfl⟩, fun h => (by cases h), ?_⟩
     · rw [hl] at hy
       simp at hy
       obtain ⟨rfl, rfl⟩ := hy
       rw [ht]
       exact read_lost v.noted hx
     · exact Nat.le_trans (readM_bytes s.text).1.length_le v.len
 cases hd : s.down with
 | true =>
   have e : doM s a = ({ s with acts := s.acts + 1 }, errR 7) := by simp [doM, h200, hk, hd]
   rw [e]
   exact ⟨log, lost, .same _ h200 (by simp [errR]) rfl rfl (by simp [errR, hd]) (fun _ => hk), tick⟩
 | false =>
   obtain ⟨ht, hlo⟩ := v.up hd
   by_cases h10 : a.kind = 10
   · cases hw : withinB a.n 0 4000 with
     | false =>
       have e : doM s a = ({ s with acts := s.acts + 1 }, errR 3) := by simp [doM, h200, hd, h10, hw]
       rw [e]
       exact ⟨log, lost, .same _ h200 (by simp [errR]) rfl rfl (by simp [errR, hd]) (by simp [hd]), tick⟩
     | true =>
       have e : doM s a = ({ s with acts := s.acts + 1, fail := a.n }, errR 0) := by simp [doM, h200, hd, h10, hw]
       rw [e]
       exact ⟨log, lost, .failing h200 hd h10 (within_iff.1 hw), v.noted, v.house, v.up, fun h => (by simp only at h; rw [hd] at h; cases h), v.len⟩
   · by_cases hc : (nextM s.c s.ps a).code = 0
     · cases hn : noted a with
       | false =>
         have e : doM s a = ({ s with acts := s.acts + 1 }, errR 3) := by simp [doM, h200, hk, hd, h10, hc, hn]
         rw [e]
         exact ⟨log, lost, .same _ h200 (by simp [errR]) rfl rfl (by simp [errR, hd]) (by simp [hd]), tick⟩
       | true =>
         by_cases hl : 4000 < s.text.length + (frameOf a).length
         · have e : doM s a = ({ s with acts := s.acts + 1 }, errR 5) := by simp [doM, h200, hk, hd, h10, hc, hn, hl]
           rw [e]
           exact ⟨log, lost, .same _ h200 (by simp [errR]) rfl rfl (by simp [errR, hd]) (by simp [hd]), tick⟩
         · by_cases hf : 0 ≤ s.fail
           · have e : doM s a = ({ s with acts := s.acts + 1, text := s.text ++ (frameOf a).take s.fail.toNat, down := true, fail := -1 }, errR 7) := by simp [doM, h200, hk, hd, h10, hc, hn, hl, hf]
             rw [e]
             exact ⟨log, some (a, s.fail.toNat), .fell _ h200 hd h10 hk hf rfl hc hn, v.noted, v.house, fun h => (by cases h), fun _ => ⟨a, _, rfl, hn, by simp only; rw [ht], rfl⟩, by
               simp only [List.length_append, List.length_take]; omega⟩
           · have e : doM s a = ({ s with acts := s.acts + 1, text := s.text ++ frameOf a, c := (nextM s.c s.ps a).c, ps := (nextM s.c s.ps a).ps }, (nextM s.c s.ps a).rep) := by simp [doM, h200, hk, hd, h10, hc, hn, hl, hf]
             rw [e]
             have hh := v.house
             have h1 : (replayM log).1 = s.c := by rw [← hh]
             have h2 : (replayM log).2 = s.ps := by rw [← hh]
             refine ⟨log ++ [a], none, .went h200 hd h10 hk hf hc hn, fun x hx => ?_, ?_, fun _ => ⟨?_, rfl⟩, fun h => (by simp only at h; rw [hd] at h; cases h), ?_⟩
             · rcases List.mem_append.1 hx with hx | hx
               · exact v.noted x hx
               · simp at hx; subst hx; exact hn
             · rw [replay_snoc, h1, h2]
             · simp only; rw [ht, bytes_app, bytes_one]
             · simp only [List.length_append]; omega
     · have e : doM s a = ({ s with acts := s.acts + 1 }, (nextM s.c s.ps a).rep) := by simp [doM, h200, hk, hd, h10, hc]
       rw [e]
       obtain ⟨h1, h2, h3⟩ := next_refused hc
       exact ⟨log, lost, .same _ h200 hc h1 h2 (by simp only [NR.rep, hd]; constructor; exact fun h => absurd h h3; intro h; cases h) (by simp [hd]), tick⟩
end Go.Proofs.Ytmkboljfbmlebab
namespace Go.Proofs.Ytmkboljfbmlebab
open Go.RowKit
set_option linter.unusedSimpArgs false
set_option linter.unusedVariables false
theorem inv_new : Inv 0 newM.core [] where
 len := by simp
 pays := fun p hp => by cases hp
 seqs := by simp
 next := ⟨Int.le_refl _, Int.le_refl _⟩
 cred := fun i hi => by show (0:Int) ≤ 0 ∧ (0:Int) ≤ 1000000; omega
 lim := fun i j hi hj => by show (-1:Int) ≤ -1 ∧ (-1:Int) ≤ 1000000; omega
 sums := fun i j hi hj => rfl
 ext := fun i hi => by show -(0 * 1000000) ≤ (0:Int) + (0 + 0 + 0 + 0) - (0 + 0 + 0 + 0) ∧ (0:Int) + (0 + 0 + 0 + 0) - (0 + 0 + 0 + 0) ≤ 0 * 1000000; omega
theorem rests_new : Rests newM.core [] := rests_none fun p hp => by cases hp
theorem replay_ok (log : List ActS) (h : log.length ≤ 900) : Inv log.length (replayM log).1 (replayM log).2 ∧ Rests (replayM log).1 (replayM log).2 := by
 obtain ⟨r, hr⟩ : ∃ r, r = log.reverse := ⟨_, rfl⟩
 induction r generalizing log with
 | nil =>
   have : log = [] := by have := congrArg List.reverse hr; simpa using this.symm
   subst this
   exact ⟨inv_new, rests_new⟩
 | cons a r ih =>
   have e : log = r.reverse ++ [a] := by have := congrArg List.reverse hr; simpa using this.symm
   subst e
   simp only [List.length_append, List.length_cons, List.length_nil] at h
   obtain ⟨h1, h2⟩ := ih r.reverse (by omega) (by simp)
   rw [replay_snoc]
   have hs := next_step (replayM r.reverse).1 (replayM r.reverse).2 a
   have hk : ((r.reverse.length : Nat) : Int) ≤ 900 := by omega
   refine ⟨?_, rests_act h1 hk h2 hs⟩
   have := h1.act hk hs
   simpa using this
structure BOk (s : BankS) (log : List ActS) (lost : Option (ActS × Nat)) : Prop where
 inv : BInv s log lost
 count : log.length + (if lost.isSome then 1 else 0) ≤ s.acts
 acts : s.acts ≤ 200
theorem bok_new : BOk newB [] none := ⟨newB_inv, by simp [newB], by simp [newB]⟩
theorem BOk.house {s : BankS} {log : List ActS} {lost : Option (ActS × Nat)} (b : BOk s log lost) : Inv 200 s.c s.ps ∧ Rests s.c s.ps := by
 have h1 := b.count
 have h2 := b.acts
 have hl : log.length ≤ 200 := by omega
 obtain ⟨i, r⟩ := replay_ok log (by omega)
 rw [← b.inv.house] at i r
 exact ⟨i.mono (by omega), r⟩
theorem BOk.act {s : BankS} {log : List ActS} {lost : Option (ActS × Nat)} (b : BOk s log lost) (a : ActS) : ∃ log' lost', DoStep s log lost a (doM s a).1 (doM s a).2 log' lost' ∧ BOk (doM s a).1 log' lost' := by
 obtain ⟨log', lost', st, v⟩ := do_step b.inv a
 refine ⟨log', lost', st, v, ?_, ?_⟩
 · have hc := b.count
   generalize (doM s a).1 = s' at st
   generalize (doM s a).2 = r at st
   cases st with
   | full h => exact hc
   | same r h1 h2 h3 h4 h5 h6 => simp only; omega
   | opened l h1 h2 h3 h4 =>
     obtain ⟨x, m, hl, _⟩ := b.inv.low h2
     subst hl
     simp only [Option.isSome_some, if_true] at hc
     rcases h4 x m rfl with rfl | rfl
     · simp; omega
     · simp only [List.length_append, List.length_cons, List.length_nil, Option.isSome_none, Bool.false_eq_true, if_false]; omega
   | failing h1 h2 h3 h4 => simp only; omega
   | fell m h1 h2 h3 h4 h5 h6 h7 h8 =>
     obtain ⟨_, hl⟩ := b.inv.up h2
     subst hl
     simp only [Option.isSome_none, Option.isSome_some, Bool.false_eq_true, if_false, if_true] at hc ⊢; omega
   | went h1 h2 h3 h4 h5 h6 h7 =>
     obtain ⟨_, hl⟩ := b.inv.up h2
     subst hl
     simp only [List.length_append, List.length_cons, List.length_nil, Option.isSome_none, Bool.false_eq_true, if_false] at hc ⊢; omega
 · have ha := b.acts
   generalize (doM s a).1 = s' at st
   generalize (doM s a).2 = r at st
   cases st <;> (try simp only) <;> omega
noncomputable def playM (s : BankS) : List ActS → BankS
 | [] => s
 | a :: r => playM (doM s a).1 r
theorem play_ok : ∀ (l : List ActS) {s : BankS} {log : List ActS} {lost : Option (ActS × Nat)}, BOk s log lost → ∃ log' lost', BOk (playM s l) log' lost'
 | [], _, log, lost, b => ⟨log, lost, b⟩
 | a :: r, _, _, _, b => by
   obtain ⟨log', lost', _, b'⟩ := b.act a
   exact play_ok r b'
end Go.Proofs.Ytmkboljfbmlebab
namespace Go.Proofs.Ytmkboljfbmlebab
open Go.RowKit
set_option linter.unusedSimpArgs false
set_option linter.unusedVariables false
def Sets (ps : List PayS) : List Int → Prop
 | [] => True
 | i :: r => (∃ p, settles ps i = some p) ∧ Sets (settleP ps i) r
theorem chain_sets : ∀ (xs : List Int) (c : H) (ps : List PayS), Chain c ps xs → Sets ps xs
 | [], _, _, _ => trivial
 | i :: r, c, ps, h => by
   obtain ⟨⟨b, _, hf⟩, hr⟩ := h
   obtain ⟨p, _, _, hs, _⟩ := firstM_spec hf
   exact ⟨⟨p, hs⟩, chain_sets r _ _ hr⟩
theorem sets_of : ∀ (xs : List Int) (ps : List PayS), xs.Nodup → (∀ i ∈ xs, ∃ p, settles ps i = some p) → Sets ps xs
 | [], _, _, _ => trivial
 | i :: r, ps, hn, hq => by
   obtain ⟨h1, h2⟩ := List.nodup_cons.1 hn
   obtain ⟨p, hp⟩ := hq i (by simp)
   have i0 := (settles_spec hp).1
   refine ⟨⟨p, hp⟩, sets_of r _ h2 fun j hj => ?_⟩
   obtain ⟨q, hq'⟩ := hq j (by simp [hj])
   obtain ⟨j0, hqj, hs⟩ := settles_spec hq'
   have hne : j.toNat ≠ i.toNat := fun e => h1 (by have : j = i := by omega
                                                   rw [← this]; exact hj)
   exact ⟨q, settlesOf j0 (by rw [settleP_at hp, if_neg hne]; exact hqj) hs⟩
theorem sets_spec : ∀ (xs : List Int) (ps : List PayS), Sets ps xs → xs.Nodup ∧ (chainP ps xs).length = ps.length ∧ (∀ i ∈ xs, 0 ≤ i ∧ i < ps.length) ∧ ∀ (j : Nat) (p : PayS), ps[j]? = some p → ∃ q, (chainP ps xs)[j]? = some q ∧ (if (j : Int) ∈ xs then p.sta = 1 ∧ q.sta = 2 else q = p)
 | [], ps, _ => ⟨List.nodup_nil, rfl, fun i hi => (by cases hi), fun j p hp => ⟨p, hp, by simp⟩⟩
 | i :: r, ps, h => by
   obtain ⟨⟨p0, h0⟩, hr⟩ := h
   obtain ⟨i0, hpi, hs1⟩ := settles_spec h0
   obtain ⟨a1, a2, a3, a4⟩ := sets_spec r (settleP ps i) hr
   have hlen : (settleP ps i).length = ps.length := settleP_len ps i
   have hil : i.toNat < ps.length := (List.getElem?_eq_some_iff.1 hpi).1
   have hat : (settleP ps i)[i.toNat]? = some { p0 with sta := 2 } := by rw [settleP_at h0, if_pos rfl]
   have hni : i ∉ r := fun hm => by
     obtain ⟨q, _, hq⟩ := a4 i.toNat _ hat
     have e : ((i.toNat : Nat) : Int) = i := by omega
     rw [e, if_pos hm] at hq
     have := hq.1
     simp at this
   refine ⟨List.nodup_cons.2 ⟨hni, a1⟩, by simp only [chainP]; rw [a2, hlen], fun j hj => ?_, fun j p hp => ?_⟩
   · rcases List.mem_cons.1 hj with rfl | hj
     · omega
     · have := a3 j hj; rw [hlen] at this; exact this
   · simp only [chainP]
     by_cases hji : j = i.toNat
     · subst hji
       rw [hpi] at hp
       simp at hp; subst hp
       obtain ⟨q, h1, h2⟩ := a4 i.toNat _ hat
       have e : ((i.toNat : Nat) : Int) = i := by omega
       rw [e] at h2 ⊢
       rw [if_neg hni] at h2
       refine ⟨q, h1, ?_⟩
       rw [if_pos (by simp), h2]
       exact ⟨hs1, rfl⟩
     · have hat' : (settleP ps i)[j]? = some p := by rw [settleP_at h0, if_neg hji]; exact hp
       obtain ⟨q, h1, h2⟩ := a4 j p hat'
       refine ⟨q, h1, ?_⟩
       have e : ((j : Int) ∈ i :: r) ↔ (j : Int) ∈ r := by
         rw [List.mem_cons]
         constructor
         · rintro (e | e)
           · omega
           · exact e
         · exact .inr
       by_cases hm : (j : Int) ∈ r
       · rw [if_pos hm] at h2; rw [if_pos (e.2 hm)]; exact h2
       · rw [if_neg hm] at h2; rw [if_neg (fun h => hm (e.1 h))]; exact h2
theorem sets_append : ∀ (xs ys : List Int) (ps : List PayS), Sets ps xs → Sets (chainP ps xs) ys → Sets ps (xs ++ ys) ∧ chainP ps (xs ++ ys) = chainP (chainP ps xs) ys
 | [], _, _, _, h => ⟨h, rfl⟩
 | i :: r, ys, ps, h, h' => by
   obtain ⟨a, b⟩ := sets_append r ys (settleP ps i) h.2 h'
   exact ⟨⟨h.1, a⟩, b⟩
theorem sweep_sets {c : H} {ps : List PayS} (hg : goodB c ps = true) : Sets ps (sweepM c ps).xs ∧ (sweepM c ps).ps = chainP ps (sweepM c ps).xs := by
 obtain ⟨h1, _, h3⟩ := sweepM_goes hg
 exact ⟨chain_sets _ _ _ h1, h3⟩
theorem untie_sets (c : H) (ps : List PayS) : Sets ps (untieM c ps).xs := sets_of _ _ (allFirsts_nodup ps _) (fun i hi => allFirsts_settles hi)
structure Told (ps ps' : List PayS) (done : List Int) : Prop where
 len : ps.length ≤ ps'.length
 once : done.Nodup
 range : ∀ i ∈ done, 0 ≤ i ∧ i < ps'.length
 stays : ∀ (j : Nat) (p : PayS), ps[j]? = some p → ∃ q, ps'[j]? = some q ∧ (p.sta ≠ 1 → q.sta = p.sta)
 tells : ∀ (j : Nat) (q : PayS), ps'[j]? = some q → ((j : Int) ∈ done ↔ q.sta = 2 ∧ ∀ p, ps[j]? = some p → p.sta ≠ 2)
theorem told_of {ps ps1 : List PayS} {xs : List Int} (hl : ps.length ≤ ps1.length) (h1 : ∀ (j : Nat) (p : PayS), ps[j]? = some p → ∃ q, ps1[j]? = some q ∧ (p.sta ≠ 1 → q.sta = p.sta) ∧ (q.sta = 2 → p.sta = 2)) (h2 : ∀ (j : Nat) (q : PayS), ps1[j]? = some q → ps[j]? = none → q.sta ≠ 2) (hs : Sets ps1 xs) : Told ps (chainP ps1 xs) xs := by
 obtain ⟨a1, a2, a3, a4⟩ := sets_spec xs ps1 hs
 refine ⟨by rw [a2]; exact hl, a1, fun i hi => by rw [a2]; exact a3 i hi, fun j p hp => ?_, fun j q hq => ?_⟩
 · obtain ⟨q, hq, k1, k2⟩ := h1 j p hp
   obtain ⟨q', hq', k3⟩ := a4 j q hq
   refine ⟨q', hq', fun hn => ?_⟩
   split at k3
   · have := k1 hn; omega
   · rw [k3]; exact k1 hn
 · have hj : j < ps1.length := by have := (List.getElem?_eq_some_iff.1 hq).1; rw [a2] at this; exact this
   obtain ⟨q1, hq1⟩ : ∃ q1, ps1[j]? = some q1 := ⟨ps1[j], by simp [hj]⟩
   obtain ⟨q', hq', k3⟩ := a4 j q1 hq1
   rw [hq] at hq'
   simp at hq'; subst hq'
   by_cases hm : (j : Int) ∈ xs
   · rw [if_pos hm] at k3
     refine ⟨fun _ => ⟨k3.2, fun p hp h => ?_⟩, fun _ => hm⟩
     obtain ⟨q2, hq2, k1, _⟩ := h1 j p hp
     rw [hq1] at hq2; simp at hq2; subst hq2
     have := k1 (by omega)
     omega
   · rw [if_neg hm] at k3
     subst k3
     refine ⟨fun h => absurd h hm, fun ⟨h3, h4⟩ => ?_⟩
     exfalso
     cases hp : ps[j]? with
     | none => exact h2 j q hq1 hp h3
     | some p =>
       obtain ⟨q2, hq2, _, k2⟩ := h1 j p hp
       rw [hq1] at hq2; simp at hq2; subst hq2
       exact h4 p hp (k2 h3)
theorem told_same {ps : List PayS} {xs : List Int} (hs : Sets ps xs) : Told ps (chainP ps xs) xs :=
 told_of (Nat.le_refl _) (fun j p hp => ⟨p, hp, fun _ => rfl, id⟩) (fun j q hq hn => by rw [hq] at hn; cases hn) hs
theorem told_set {ps : List PayS} {n : Int} {p p' : PayS} {xs : List Int} (hn : settles ps n = some p) (h2 : p'.sta ≠ 2) (hs : Sets (ps.set n.toNat p') xs) : Told ps (chainP (ps.set n.toNat p') xs) xs := by
 obtain ⟨n0, hp, h1⟩ := settles_spec hn
 have hlt := (List.getElem?_eq_some_iff.1 hp).1
 refine told_of (by simp) (fun j q hq => ?_) (fun j q hq hnn => ?_) hs
 · by_cases hj : n.toNat = j
   · subst hj
     rw [hp] at hq; simp at hq; subst hq
     exact ⟨p', by simp [hlt], fun h => absurd h1 h, fun h => absurd h h2⟩
   · exact ⟨q, by rw [List.getElem?_set_ne hj]; exact hq, fun _ => rfl, id⟩
 · have : j < ps.length := by have := (List.getElem?_eq_some_iff.1 hq).1; simpa using this
   simp at hnn; omega
theorem told_act {k : Int} {c : H} {ps : List PayS} (v : Inv k c ps) (hk : k ≤ 900) {a : ActS} {r : NR} (s : Step c ps a r) : Told ps r.ps r.done := by
 cases s with
 | err e he => exact told_same (ps := ps) (xs := []) trivial
 | close h1 =>
   refine ⟨by simp, List.nodup_nil, fun i hi => (by cases hi), fun j p hp => ⟨goneP p, by simp [hp], fun h => by simp [goneP, h]⟩, fun j q hq => ⟨fun h => (by cases h), fun ⟨h2, h3⟩ => ?_⟩⟩
   simp only [List.getElem?_map] at hq
   cases hp : ps[j]? with
   | none => rw [hp] at hq; cases hq
   | some p =>
     rw [hp] at hq
     simp at hq
     subst hq
     have := h3 p hp
     by_cases h1 : p.sta = 1
     · simp [goneP, h1] at h2
     · simp [goneP, h1] at h2; exact absurd h2 this
 | mid m =>
   have hg := (v.mid hk m).good (by omega)
   obtain ⟨hs, he⟩ := sweep_sets hg
   simp only [sweepN]
   rw [he]
   cases m with
   | pay h1 hp hl hn =>
     refine told_of (by simp) (fun j p hp' => ⟨p, by rw [List.getElem?_append_left (List.getElem?_eq_some_iff.1 hp').1]; exact hp', fun _ => rfl, id⟩) (fun j q hq hnn => ?_) hs
     have hj : ps.length ≤ j := by simpa using hnn
     rw [List.getElem?_append_right hj] at hq
     have : q = newPay c a := by
       cases hx : j - ps.length with
       | zero => rw [hx] at hq; simpa using hq.symm
       | succ m => rw [hx] at hq; simp at hq
     subst this
     simp [newPay]
   | gone p h1 hs' => exact told_set hs' (by simp) hs
   | cls p h1 hs' hc hn => exact told_set hs' (by have := (settles_spec hs').2.2; simp only; omega) hs
   | cred h1 ha hn => exact told_same hs
   | lim h1 ha hb hne hn => exact told_same hs
   | fund h1 ha hn => exact told_same hs
   | spend h1 ha hn hl => exact told_same hs
   | untie h1 =>
     obtain ⟨a1, a2⟩ := sets_append (untieM c ps).xs (sweepM (untieM c ps).c (untieM c ps).ps).xs ps (untie_sets c ps) hs
     have := told_same a1
     rw [a2] at this
     exact this
end Go.Proofs.Ytmkboljfbmlebab
namespace Go.Proofs.Ytmkboljfbmlebab
open Go.RowKit
set_option linter.unusedSimpArgs false
set_option linter.unusedVariables false
theorem next_len {c : H} {ps : List PayS} {a : ActS} (h : ps.length ≤ 24) : (nextM c ps a).ps.length ≤ 24 := by
 have s := next_step c ps a
 generalize nextM c ps a = r at s
 cases s with
 | err e he => exact h
 | close h1 => simpa using h
 | mid m =>
   simp only [sweepN]
   rw [(sweepM_len _ _).1]
   cases m <;> (try simp only [List.length_append, List.length_set, List.length_cons, List.length_nil, untie_len]) <;> omega
structure RpG where
 F : Addr → Value → Prop
 h : H
 k : Nat
structure RpOk (w : World) (xs : List ActS) (t : RpG) : Prop where
 k : t.k ≤ xs.length
 more : More (At w) t.F
 core : t.h.core = (replayM (xs.take t.k)).1
 pays : PaysIn (Young w t.F) t.h.pa t.h.pl (replayM (xs.take t.k)).2
 lc : t.h.pl ≤ t.h.pc
 len : t.h.pl ≤ 24
theorem rpOk_start {w : World} {xs : List ActS} : RpOk w xs ⟨At w, newM, 0⟩ :=
 ⟨Nat.zero_le _, fun _ _ h => h, by simp [replayM, replayFrom], ⟨by simp [replayM, replayFrom, newM], .inl rfl⟩, Nat.le_refl _, Nat.zero_le _⟩
theorem replay_take {xs : List ActS} {k : Nat} {a : ActS} (h : xs[k]? = some a) : replayM (xs.take (k + 1)) = ((nextM (replayM (xs.take k)).1 (replayM (xs.take k)).2 a).c, (nextM (replayM (xs.take k)).1 (replayM (xs.take k)).2 a).ps) := by
 rw [List.take_add_one, h]
 exact replay_snoc _ _
theorem RpOk.step {w : World} {xs : List ActS} {t : RpG} (o : RpOk w xs t) {a : ActS} (ha : xs[t.k]? = some a) {F' : Addr → Value → Prop} (hF : More t.F F') {h' : H} {ps : List PayS} (hps : ps = (replayM (xs.take t.k)).2) (hc : h'.core = (nextM t.h.core ps a).c) (hl : h'.pl ≤ h'.pc)
   (hp : (h'.pa = t.h.pa ∧ h'.pl = t.h.pl ∧ (nextM t.h.core ps a).ps = ps) ∨ PaysIn (Young w F') h'.pa h'.pl (nextM t.h.core ps a).ps) : RpOk w xs ⟨F', h', t.k + 1⟩ := by
 subst hps
 have hr := replay_take ha
 rw [o.core] at hc hp
 have hpays : PaysIn (Young w F') h'.pa h'.pl (nextM (replayM (xs.take t.k)).1 (replayM (xs.take t.k)).2 a).ps := by
   rcases hp with ⟨e1, e2, e3⟩ | hp
   · rw [e1, e2, e3]; exact o.pays.mono (young_mono hF)
   · exact hp
 refine ⟨(List.getElem?_eq_some_iff.1 ha).1, fun a v h => hF a v (o.more a v h), by simp only; rw [hr, hc], by simp only; rw [hr]; exact hpays, hl, ?_⟩
 have h1 := hpays.1
 have h2 := next_len (c := (replayM (xs.take t.k)).1) (ps := (replayM (xs.take t.k)).2) (a := a) (by rw [o.pays.1]; exact o.len)
 simp only; omega
def ReplayF (xs : List ActS) (F : Addr → Value → Prop) (v : Value) : Prop := ∃ h : H, v = .agg h.cells ∧ h.core = (replayM xs).1 ∧ h.pl ≤ h.pc ∧ h.pl ≤ 24 ∧ PaysIn F h.pa h.pl (replayM xs).2
theorem replayF_mono (xs : List ActS) : Mono (ReplayF xs) := by
 rintro F F' v hm ⟨h, h1, h2, h3, h4, h5⟩
 exact ⟨h, h1, h2, h3, h4, h5.mono hm⟩
end Go.Proofs.Ytmkboljfbmlebab
namespace Go.Proofs.Ytmkboljfbmlebab
open Go.RowKit
set_option linter.unusedSimpArgs false
set_option linter.unusedVariables false
def GivesW (P : Program) (k : FuncId) (args : List Value) (F : Addr → Value → Prop) (B : List (Nat × Obj)) (R : (Addr → Value → Prop) → Value → List (Nat × Obj) → Prop) : Prop :=
 ∀ (w0 : World) (K : List (Nat × Obj)) (w : World), Has w0 F (B ++ K) w → Calls P k args.toArray w fun e w' => ∃ v B' F', e = .returned v ∧ More F F' ∧ Has w0 F' (B' ++ K) w' ∧ R F' v B'
def retW (w0 : World) (F : Addr → Value → Prop) (K : List (Nat × Obj)) (R : (Addr → Value → Prop) → Value → List (Nat × Obj) → Prop) : Value → World → Prop :=
 fun v w' => ∃ B' F', More F F' ∧ Has w0 F' (B' ++ K) w' ∧ R F' v B'
theorem givesW_of {P : Program} {k : FuncId} {fn : Func} {c : Code} {m : Nat} {args : List Value} {B : List (Nat × Obj)} {F : Addr → Value → Prop} {R : (Addr → Value → Prop) → Value → List (Nat × Obj) → Prop}
   (hf : P.funcs[k]? = some fn) (hb : fn.body = some c) (hn : fn.ntmps = m) (hl : args.length ≤ m)
   (h : ∀ w0 K, cC P m c (retQ P fn m (retW w0 F K R)) (argF args) (Has w0 F (B ++ K))) : GivesW P k args F B R := fun w0 K w hw => by
 refine calls_of_wp hf hb ?_
 rw [hn, Fa_args m args hl]
 refine wp_mono (h w0 K w hw) ?_
 rintro e a w' ⟨f, rfl, hr⟩
 cases e <;> simp only [retQ] at hr
 · obtain ⟨v, h1, B', F', h2, h3, h4⟩ := hr; exact ⟨rfl, v, h1, v, B', F', rfl, h2, h3, h4⟩
 · obtain ⟨v, h1, B', F', h2, h3, h4⟩ := hr; exact ⟨rfl, v, h1, v, B', F', rfl, h2, h3, h4⟩
section
variable {P : Program} {ops : Array Oper} {K : (Nat → Value) → World → Prop} {rest : List Oper} {f : Nat → Value} {d : Nat} {ty : TypeId} {pos : String} {af : Array Edge} {w0 : World} {F : Addr → Value → Prop} {B E L : List (Nat × Obj)}
theorem s_weak {C C' : World → Prop} (hc : ∀ w, C w → C' w) (h : sC P ops K rest f C') : sC P ops K rest f C := fun w hw => h w (hc w hw)
theorem s_callW {k : FuncId} {xs : List Operand} {ats : Array TypeId} {R : (Addr → Value → Prop) → Value → List (Nat × Obj) → Prop} (hk : hasBody P k = true) (hg : GivesW P k (xs.map (ev f)) F B R)
   (kk : ∀ (F' : Addr → Value → Prop) (v : Value) (B' : List (Nat × Obj)), More F F' → R F' v B' → sC P ops K rest (upd f d v) (Has w0 F' (B' ++ L))) :
   sC P ops K (⟨some d, .call ⟨.value (.func k), xs.toArray, ats⟩, ty, pos, af, none⟩ :: rest) f (Has w0 F (B ++ L)) := by
 intro w hw
 unfold sw
 rw [if_pos wanted_free]
 unfold opk
 rw [run_call hk w]
 exact (hg w0 L w hw).mono fun e w' ⟨v, B', F', he, hm, h', hr⟩ => ⟨_, he, kk F' v B' hm hr w' h'⟩
theorem s_pushM {T e m by_ n mm c : Nat} {ats : Array TypeId} {x y : Operand} {v : Value} {xs news : List Value} {b o : Nat} (hT : rowB P T e m by_ = true) (hm : Nat.ble 1 m = true) (hbb : Nat.ble 1 by_ = true) (hat : ats = #[T, T])
   (hx : ev f x = v) (hy : ev f y = .slice (some ⟨b, o, none⟩) mm c) (hE : ListE e m v n xs E) (hl : news.length = mm * m) (hnews : ∀ w, Has w0 F (E ++ L) w → ∀ j u, news[j]? = some u → w.cell? ⟨b, o + j, none⟩ = some u) (h1 : ∀ u ∈ news, u.oneCell' = true) (hpos : 0 < mm) (hbytes : (n + mm) * by_ ≤ 140737488355328)
   (kk : ∀ v' E', ListE e m v' (n + mm) (xs ++ news) E' → sC P ops K rest (upd f d v') (Has w0 F (E' ++ L))) :
   sC P ops K (⟨some d, .call ⟨.builtin .append, #[x, y], ats⟩, ty, pos, af, none⟩ :: rest) f (Has w0 F (E ++ L)) := by
 intro w hw
 subst hat
 unfold sw
 rw [if_pos wanted_free]
 unfold opk
 obtain ⟨v', E', w', hr, hE', hw'⟩ := run_appendE (P := P) (w0 := w0) (F := F) (L := L) (c := c) (ty := ty) (b := b) (o := o) (mm := mm) (news := news) hT (Nat.le_of_ble_eq_true hm) hE hw hl (hnews w hw) h1 hpos hbytes (Nat.le_of_ble_eq_true hbb)
 have : (execOp (ev f) ⟨some d, .call ⟨.builtin .append, #[x, y], #[T, T]⟩, ty, pos, af, none⟩).run P w = .ok (.value v') w' := by
   simp [execOp, resolve, invoke, builtin, hx, hy, hr]
 rw [this]
 exact kk v' E' hE' w' hw'
theorem s_pushN {T e m by_ n mm : Nat} {ats : Array TypeId} {x y : Operand} {v : Value} {xs : List Value} {b : Nat} {cs : Array Value} (hT : rowB P T e m by_ = true) (hm : Nat.ble 1 m = true) (hbb : Nat.ble 1 by_ = true) (hat : ats = #[T, T])
   (hx : ev f x = v) (hy : ev f y = .slice (some ⟨b, 0, none⟩) mm mm) (hE : ListE e m v n xs E) (hs : cs.size = mm * m) (h1 : cs.all (·.oneCell') = true) (hpos : 0 < mm) (hbytes : (n + mm) * by_ ≤ 140737488355328)
   (kk : ∀ v' E', ListE e m v' (n + mm) (xs ++ cs.toList) E' → sC P ops K rest (upd f d v') (Has w0 F (E' ++ L))) :
   sC P ops K (⟨some d, .call ⟨.builtin .append, #[x, y], ats⟩, ty, pos, af, none⟩ :: rest) f (Has w0 F ((b, .cells cs e) :: (E ++ L))) := by
 intro w hw
 subst hat
 unfold sw
 rw [if_pos wanted_free]
 unfold opk
 obtain ⟨v', E', w', hr, hE', hw'⟩ := run_appendE (P := P) (w0 := w0) (F := F) (L := L) (c := mm) (ty := ty) (b := b) (o := 0) (mm := mm) (news := cs.toList) hT (Nat.le_of_ble_eq_true hm) hE hw.tail (by simp [hs]) (fun j u hj => by
   rw [Nat.zero_add, cell_has hw .here]; simpa using hj) (fun u hu => by rw [Array.all_eq_true_iff_forall_mem] at h1; exact h1 u (by simpa using hu)) hpos hbytes (Nat.le_of_ble_eq_true hbb)
 have : (execOp (ev f) ⟨some d, .call ⟨.builtin .append, #[x, y], #[T, T]⟩, ty, pos, af, none⟩).run P w = .ok (.value v') w' := by
   simp [execOp, resolve, invoke, builtin, hx, hy, hr]
 rw [this]
 exact kk v' E' hE' w' hw'
end
def u8s (l : List Nat) : List Value := l.map fun n : Nat => U8 (n : Int)
theorem u8s_len (l : List Nat) : (u8s l).length = l.length := by simp [u8s]
theorem u8s_append (l m : List Nat) : u8s (l ++ m) = u8s l ++ u8s m := by simp [u8s]
theorem u8s_one (l : List Nat) : ∀ u ∈ u8s l, u.oneCell' = true := fun u hu => by
 obtain ⟨q, _, rfl⟩ := List.mem_map.1 hu
 rfl
def BytesAt (F : Addr → Value → Prop) (a : Option Addr) (l : List Nat) : Prop := l = [] ∨ ∃ b o, a = some ⟨b, o, none⟩ ∧ ∀ (j m : Nat), l[j]? = some m → F ⟨b, o + j, none⟩ (U8 m)
theorem BytesAt.get {F : Addr → Value → Prop} {a : Option Addr} {l : List Nat} (h : BytesAt F a l) {j : Nat} (hj : j < l.length) : ∃ b o m, a = some ⟨b, o, none⟩ ∧ l[j]? = some m ∧ F ⟨b, o + j, none⟩ (U8 m) := by
 rcases h with rfl | ⟨b, o, h1, h2⟩
 · simp at hj
 · exact ⟨b, o, l[j], h1, by simp [hj], h2 j _ (by simp [hj])⟩
abbrev Bytes (e : Nat) (v : Value) (l : List Nat) (E : List (Nat × Obj)) : Prop := ListE e 1 v l.length (u8s l) E
theorem byts_nil (e : Nat) : Bytes e (.slice none 0 0) [] [] := listE_nil e 1
theorem Bytes.slice {e : Nat} {v : Value} {l : List Nat} {E : List (Nat × Obj)} (h : Bytes e v l E) : ∃ a c, v = .slice a l.length c ∧ ∀ {w0 w : World} {F : Addr → Value → Prop} {L : List (Nat × Obj)}, Has w0 F L w → (∀ p ∈ E, p ∈ L) → BytesAt (At w) a l := by
 rcases h.2 with ⟨rfl, h2, rfl⟩ | ⟨g, cap, cur, rfl, rfl, h3, h4, h5, h6⟩
 · exact ⟨none, 0, by rw [h2], fun _ _ => .inl (List.eq_nil_of_length_eq_zero h2)⟩
 · refine ⟨_, _, rfl, fun {w0 w F L} hw hs => .inr ⟨g, 0, rfl, fun j m hj => ?_⟩⟩
   show w.cell? _ = _
   rw [Nat.zero_add, cell_of_row w g j cur e (0, 0) (hw.2.2.1 (g, .cells cur e (0, 0)) (hs _ (by simp))).2]
   have e1 : (u8s l)[j]? = some (U8 m) := by simp [u8s, hj]
   rw [← h6, List.getElem?_take] at e1
   split at e1
   · simpa using e1
   · cases e1
theorem Bytes.block {e : Nat} {v : Value} {l : List Nat} {E : List (Nat × Obj)} (h : Bytes e v l E) (h0 : 0 < l.length) : ∃ g c cs, v = .slice (some ⟨g, 0, none⟩) l.length c ∧ E = [(g, .cells cs e (0, 0))] ∧ ∀ (j m : Nat), l[j]? = some m → cs[j]? = some (U8 m) := by
 rcases h.2 with ⟨rfl, h2, rfl⟩ | ⟨g, cap, cur, rfl, rfl, h3, h4, h5, h6⟩
 · omega
 · refine ⟨g, cap, cur, rfl, rfl, fun j m hj => ?_⟩
   have e1 : (u8s l)[j]? = some (U8 m) := by simp [u8s, hj]
   rw [← h6, List.getElem?_take] at e1
   split at e1
   · simpa using e1
   · cases e1
theorem byts_one (e b n : Nat) : Bytes e (.slice (some ⟨b, 0, none⟩) 1 1) [n] [(b, .cells #[U8 (n : Int)] e)] :=
 ⟨rfl, .inr ⟨b, 1, #[U8 (n : Int)], rfl, rfl, Nat.le_refl _, by decide, rfl, rfl⟩⟩
section
variable {P : Program} {f : Nat → Value} {dst : Option Nat} {ty : TypeId} {pos : String} {af : Array Edge} {gd : Option (Nat × Bool)} {w0 : World} {F : Addr → Value → Prop} {C : World → Prop} {E L : List (Nat × Obj)}
theorem v_strOfE {x : Operand} {Sx T e : Nat} {v : Value} {l : List Nat} (hS : bytesB P Sx = true) (hT : strB P T = true) (hx : ev f x = v) (hE : Bytes e v l E) (h0 : 0 < l.length) (hb : Byt l) :
   Val P f (Has w0 F (E ++ L)) ⟨dst, .convert Sx T x, ty, pos, af, gd⟩ (S l) := by
 obtain ⟨g, c, cs, rfl, rfl, hc⟩ := hE.block h0
 exact v_strOf hS hT hx rfl (.here) hb hc
theorem v_shl {x y : Operand} {t t' : TypeId} {a b c : Int} (hx : ev f x = .int .i64 a) (hy : ev f y = .int .i64 b) (hb : 0 ≤ b ∧ b ≤ 64) (hc : IntKind.i64.wrap (a * 2 ^ b.toNat) = c) : Val P f C ⟨dst, .binOp .shl t x y t', ty, pos, af, gd⟩ (.int .i64 c) :=
 ⟨fun w _ => by
   have h1 := shift_shl .i64 .i64 a b hb.1 (show b ≤ 64 from hb.2)
   rw [hc] at h1
   simp [execOp, hx, hy, eqGuard, binOp, h1]
   exact hc⟩
end
section
variable {P : Program} {fn : Func} {n t t2 t3 T b m ty : Nat} {fr : Nat × Nat} {cs : Array Value} {f : Nat → Value} {v : Value} {w0 : World} {F F0 : Addr → Value → Prop} {L K B' : List (Nat × Obj)} {R : (Addr → Value → Prop) → Value → List (Nat × Obj) → Prop}
theorem n_doneW (hr : fn.results = #[.tmp t]) (ht : t < n) (hm : More F0 F) (hs : ∀ w, Has w0 F L w → Has w0 F (B' ++ K) w) (hv : R F (f t) B') : nC (retQ P fn n (retW w0 F0 K R)) .ret f (Has w0 F L) :=
 fun w hw => ⟨f t, results_one hr ht w, B', F, hm, hs w hw, hv⟩
theorem n_done3 (hr : fn.results = #[.tmp t, .tmp t2, .tmp t3]) (ht : t < n) (ht2 : t2 < n) (ht3 : t3 < n) (hv : .tuple #[f t, f t2, f t3] = v) :
   nC (retQ P fn n (fun v' w' => v' = v ∧ Bel w0.heap.size w0 w')) .ret f (Has w0 F L) := fun w hw => by
 refine ⟨.tuple #[f t, f t2, f t3], ?_, hv, hw.1⟩
 have e : (Fa n f).tmps[t]?.getD undef = f t := by simp [Fa, ht]
 have e2 : (Fa n f).tmps[t2]?.getD undef = f t2 := by simp [Fa, ht2]
 have e3 : (Fa n f).tmps[t3]?.getD undef = f t3 := by simp [Fa, ht3]
 simp [results, hr, e, e2, e3]
theorem n_doneCT (hr : fn.results = #[.cell t T, .tmp t2]) (ht : t < n) (ht2 : t2 < n) (hp : f t = .pointer (some ⟨b, 0, none⟩))
   (hT : aggB P T m = true) (hl : Look L b (.cells cs ty fr)) (hm : cs.size = m) (hv : .tuple #[.agg cs, f t2] = v) : nC (retQ P fn n (fun v' w' => v' = v ∧ Bel w0.heap.size w0 w')) .ret f (Has w0 F L) := fun w hw => by
 refine ⟨.tuple #[.agg cs, f t2], ?_, hv, hw.1⟩
 have e : (Fa n f).tmps[t]?.getD undef = f t := by simp [Fa, ht]
 have e2 : (Fa n f).tmps[t2]?.getD undef = f t2 := by simp [Fa, ht2]
 subst hm
 have := run_loadN (P := P) (w := w) (b := b) (o := 0) (cs := cs.toList) (by simpa using hT) (fun j v hj => by
   rw [cell_has hw hl]; simpa using hj)
 simp only [Instr.loadAt, Instr.sureAddr, Sem.run_bind, Sem.run_pure, Result.andThen] at this
 simp [results, hr, e, e2, hp, asAddr, this]
theorem n_doneCTT (hr : fn.results = #[.cell t T, .tmp t2, .tmp t3]) (ht : t < n) (ht2 : t2 < n) (ht3 : t3 < n) (hp : f t = .pointer (some ⟨b, 0, none⟩))
   (hT : aggB P T m = true) (hl : Look L b (.cells cs ty fr)) (hm : cs.size = m) (hv : .tuple #[.agg cs, f t2, f t3] = v) : nC (retQ P fn n (fun v' w' => v' = v ∧ Bel w0.heap.size w0 w')) .ret f (Has w0 F L) := fun w hw => by
 refine ⟨.tuple #[.agg cs, f t2, f t3], ?_, hv, hw.1⟩
 have e : (Fa n f).tmps[t]?.getD undef = f t := by simp [Fa, ht]
 have e2 : (Fa n f).tmps[t2]?.getD undef = f t2 := by simp [Fa, ht2]
 have e3 : (Fa n f).tmps[t3]?.getD undef = f t3 := by simp [Fa, ht3]
 subst hm
 have := run_loadN (P := P) (w := w) (b := b) (o := 0) (cs := cs.toList) (by simpa using hT) (fun j v hj => by
   rw [cell_has hw hl]; simpa using hj)
 simp only [Instr.loadAt, Instr.sureAddr, Sem.run_bind, Sem.run_pure, Result.andThen] at this
 simp [results, hr, e, e2, e3, hp, asAddr, this]
end
theorem Has.less {w0 w : World} {F F' : Addr → Value → Prop} {L : List (Nat × Obj)} (h : Has w0 F' L w) (hm : More F F') : Has w0 F L w := ⟨h.1, h.2.1, h.2.2.1, fun a v hF => h.2.2.2 a v (hm a v hF)⟩
theorem s_callB {P : Program} {ops : Array Oper} {K : (Nat → Value) → World → Prop} {rest : List Oper} {f : Nat → Value} {d : Nat} {ty : TypeId} {pos : String} {af : Array Edge} {w0 : World} {F : Addr → Value → Prop} {B L : List (Nat × Obj)}
   {k : FuncId} {xs : List Operand} {ats : Array TypeId} {R : Value → List (Nat × Obj) → Prop} (hk : hasBody P k = true) (hg : GivesW P k (xs.map (ev f)) F B (fun _ v B' => R v B'))
   (kk : ∀ (v : Value) (B' : List (Nat × Obj)), R v B' → sC P ops K rest (upd f d v) (Has w0 F (B' ++ L))) :
   sC P ops K (⟨some d, .call ⟨.value (.func k), xs.toArray, ats⟩, ty, pos, af, none⟩ :: rest) f (Has w0 F (B ++ L)) :=
 s_callW hk hg fun _ v B' hm hr => s_weak (fun _ hw => hw.less hm) (kk v B' hr)
theorem Bytes.snoc {e : Nat} {v : Value} {l : List Nat} {E : List (Nat × Obj)} {x : Int} {b : Nat} (h : ListE e 1 v (l.length + 1) (u8s l ++ (U8 x).cells.toList) E) (hx : x = (b : Int)) : Bytes e v (l ++ [b]) E := by
 subst hx
 unfold Bytes
 rw [u8s_append, List.length_append]
 exact h
theorem Bytes.push {e : Nat} {v : Value} {l m : List Nat} {E : List (Nat × Obj)} (h : ListE e 1 v (l.length + m.length) (u8s l ++ u8s m) E) : Bytes e v (l ++ m) E := by
 unfold Bytes
 rw [u8s_append, List.length_append]
 exact h
def bodyTo (a : ActS) (k : Nat) : List Nat := (a.list.take k).flatMap fun n => digs (zig n)
theorem body_five (a : ActS) : bodyTo a 5 = bodyOf a := by simp [bodyTo, bodyOf, ActS.list]
theorem body_step {a : ActS} {k : Nat} {n : Int} (h : a.list[k]? = some n) : bodyTo a (k + 1) = bodyTo a k ++ digs (zig n) := by
 unfold bodyTo
 rw [List.take_add_one, h]; simp
theorem noted_list {a : ActS} (h : noted a = true) {k : Nat} {n : Int} (hk : a.list[k]? = some n) : notedI n = true := by
 obtain ⟨h1, h2, h3, h4, h5⟩ := noted_all h
 have := List.mem_of_getElem? hk
 simp only [ActS.list, List.mem_cons, List.not_mem_nil, or_false] at this
 rcases this with rfl | rfl | rfl | rfl | rfl <;> assumption
theorem body_room {a : ActS} (h : noted a = true) : ∀ k, (bodyTo a k).length ≤ 5 * k
 | 0 => by simp [bodyTo]
 | k + 1 => by
   have ih := body_room h k
   cases hk : a.list[k]? with
   | none => unfold bodyTo at ih ⊢; rw [List.take_add_one, hk]; simp only [Option.toList_none, List.append_nil]; omega
   | some n =>
     have := digs_len5 (noted_list h hk)
     rw [body_step hk, List.length_append]; omega
theorem ActS.get (a : ActS) {k : Nat} (hk : k < 5) : ∃ n, a.list[k]? = some n ∧ a.cells[((k : Nat) : Int).toNat * 1]? = some (I n) := by
 have : k = 0 ∨ k = 1 ∨ k = 2 ∨ k = 3 ∨ k = 4 := by omega
 rcases this with rfl | rfl | rfl | rfl | rfl <;> exact ⟨_, rfl, rfl⟩
structure FB where
 k : Nat
 v : Value
 E : List (Nat × Obj)
structure AN where
 u : Nat
 m : List Nat
 v : Value
 E : List (Nat × Obj)
structure Dig5 (t : List Nat) (j u : Nat) : Prop where
 j5 : j ≤ 5
 ub : u < 128 ^ j
 jl : j ≤ t.length
 rel : undig 5 t = (undig (5 - j) (t.drop j)).map fun p => (u + 128 ^ j * p.1, p.2)
theorem dig5_start (t : List Nat) : Dig5 t 0 0 := ⟨by omega, by decide, by omega, by
 simp only [Nat.sub_zero, List.drop_zero, Nat.pow_zero, Nat.one_mul, Nat.zero_add]
 cases undig 5 t <;> rfl⟩
theorem Dig5.step {t : List Nat} {j u b : Nat} (o : Dig5 t j u) (hb : t[j]? = some b) (h1 : ¬ b < 128) (h2 : b < 256) (hj : j < 5) : Dig5 t (j + 1) (u + b % 128 * 128 ^ j) := by
 have e : b % 128 = b - 128 := by omega
 rw [e]
 refine ⟨by omega, ?_, (List.getElem?_eq_some_iff.1 hb).1, ?_⟩
 · have := o.ub
   have h3 : (b - 128) * 128 ^ j ≤ 127 * 128 ^ j := Nat.mul_le_mul_right _ (by omega)
   rw [Nat.pow_succ]; omega
 · rw [o.rel, drop_cons hb, show 5 - j = (5 - (j + 1)) + 1 by omega, undig, if_neg (by omega)]
   cases undig (5 - (j + 1)) (t.drop (j + 1)) with
   | none => rfl
   | some p =>
     simp only [Option.map_some]
     congr 2
     rw [Nat.mul_add, Nat.pow_succ, ← Nat.mul_assoc, Nat.mul_comm (128 ^ j) (b - 128), Nat.add_assoc]
theorem Dig5.stop {t : List Nat} {j u : Nat} (o : Dig5 t j u) (h : t.length ≤ j ∨ 5 ≤ j) : undig 5 t = none := by
 have h5 := o.j5
 rw [o.rel]
 by_cases e : j = 5
 · subst e; rfl
 · rw [List.drop_eq_nil_of_le (by omega), show 5 - j = (4 - j) + 1 by omega]; rfl
theorem Dig5.last {t : List Nat} {j u b : Nat} (o : Dig5 t j u) (hb : t[j]? = some b) (h1 : b < 128) (hj : j < 5) : undig 5 t = some (u + b % 128 * 128 ^ j, t.drop (j + 1)) := by
 rw [Nat.mod_eq_of_lt h1, o.rel, drop_cons hb, show 5 - j = (4 - j) + 1 by omega, undig, if_pos h1, Option.map_some, Nat.mul_comm (128 ^ j) b]
theorem pow5 {j : Nat} (h : j < 5) : 128 ^ j ≤ 268435456 ∧ (2 : Int) ^ ((7 : Int) * ((j : Nat) : Int)).toNat = ((128 ^ j : Nat) : Int) := by
 have : j = 0 ∨ j = 1 ∨ j = 2 ∨ j = 3 ∨ j = 4 := by omega
 rcases this with rfl | rfl | rfl | rfl | rfl <;> exact ⟨by decide, rfl⟩
theorem dig5_fits {b p : Nat} (hp : p ≤ 268435456) : b % 128 * p ≤ 34359738368 := by
 have : b % 128 * p ≤ 127 * 268435456 := Nat.mul_le_mul (by omega) hp
 omega
theorem shl5 {b j : Nat} (hj : j < 5) : IntKind.i64.wrap (((b % 128 : Nat) : Int) * 2 ^ ((7 : Int) * ((j : Nat) : Int)).toNat) = ((b % 128 * 128 ^ j : Nat) : Int) := by
 rw [(pow5 hj).2, ← Int.natCast_mul]
 have := dig5_fits (b := b) (pow5 hj).1
 exact wr_in (by omega) (by omega)
def rnV (l : List Nat) : Int := match undig 5 l with
 | none => 0
 | some p => zag p.1
def rnK (l : List Nat) : Nat := match undig 5 l with
 | none => 0
 | some p => l.length - p.2.length
def rnB (l : List Nat) : Bool := (undig 5 l).isSome
def numR (l : List Nat) : Value := .tuple #[I (rnV l), I (rnK l : Nat), .bool (rnB l)]
theorem numR_no {l : List Nat} (h : undig 5 l = none) : .tuple #[I 0, I 0, .bool false] = numR l := by simp [numR, rnV, rnK, rnB, h]
theorem numR_yes {l : List Nat} {u j : Nat} (h : undig 5 l = some (u, l.drop (j + 1))) (hj : j < l.length) : .tuple #[I (zag u), I ((j : Int) + 1), .bool true] = numR l := by
 simp only [numR, rnV, rnK, rnB, h, Option.isSome_some, List.length_drop]
 congr 5
 omega
theorem zag_odd5 {u : Nat} (h : ¬ ((u % 2 : Nat) : Int) = 0) : (-((u : Int) + 1)).tdiv 2 = zag u := by
 unfold zag
 rw [if_pos (by omega), Int.neg_tdiv, show ((u : Int) + 1).tdiv 2 = (((u + 1) / 2 : Nat) : Int) from tdiv_nat (u + 1) 2]
 omega
theorem zag_even5 {u : Nat} (h : ((u % 2 : Nat) : Int) = 0) : ((u / 2 : Nat) : Int) = zag u := by unfold zag; rw [if_neg (by omega)]
theorem zag_bound (u : Nat) : -(u : Int) - 1 ≤ zag u ∧ zag u ≤ u := by unfold zag; split <;> omega
theorem undig_drop : ∀ (f : Nat) {l : List Nat} {u : Nat} {r : List Nat}, undig f l = some (u, r) → ∃ k, k ≤ l.length ∧ r = l.drop k
 | 0, l, u, r, h => by simp [undig] at h
 | f + 1, [], u, r, h => by simp [undig] at h
 | f + 1, b :: l, u, r, h => by
   unfold undig at h
   split at h
   · simp at h
     exact ⟨1, by simp, h.2.symm⟩
   · cases hq : undig f l with
     | none => rw [hq] at h; cases h
     | some p =>
       rw [hq] at h
       simp at h
       obtain ⟨k, h2, h3⟩ := undig_drop f (show undig f l = some (p.1, p.2) from hq)
       exact ⟨k + 1, by simp only [List.length_cons]; omega, by rw [← h.2, h3]; rfl⟩
theorem rn_yes {l : List Nat} (h : rnB l = true) : ∃ u, undig 5 l = some (u, l.drop (rnK l)) ∧ rnV l = zag u ∧ rnK l ≤ l.length := by
 unfold rnB at h
 cases hq : undig 5 l with
 | none => rw [hq] at h; cases h
 | some p =>
   obtain ⟨k, h2, h3⟩ := undig_drop 5 (show undig 5 l = some (p.1, p.2) from hq)
   have e : rnK l = k := by
     simp only [rnK, hq, h3, List.length_drop]; omega
   refine ⟨p.1, by rw [e, ← h3], by simp [rnV, hq], by omega⟩
theorem rn_no {l : List Nat} (h : rnB l = false) : undig 5 l = none := by
 unfold rnB at h
 cases hq : undig 5 l with
 | none => rfl
 | some p => rw [hq] at h; cases h
def nums5 : Nat → List Nat → Option (List Nat × List Nat)
 | 0, l => some ([], l)
 | k + 1, l => match nums5 k l with
   | none => none
   | some (us, t) => (undig 5 t).map fun p => (us ++ [p.1], p.2)
theorem nums5_step {k : Nat} {l us t : List Nat} (h : nums5 k l = some (us, t)) : nums5 (k + 1) l = (undig 5 t).map fun p => (us ++ [p.1], p.2) := by simp only [nums5, h]
theorem nums5_none {k : Nat} {l : List Nat} (h : nums5 k l = none) : ∀ m, nums5 (k + m) l = none
 | 0 => h
 | m + 1 => by
   have := nums5_none h m
   rw [show k + (m + 1) = (k + m) + 1 by omega]
   simp only [nums5, this]
theorem nums5_body {x : ActS} (h : noted x = true) (r : List Nat) : nums5 5 (bodyOf x ++ r) = some ([zig x.kind, zig x.a, zig x.b, zig x.c, zig x.n], r) := by
 obtain ⟨h1, h2, h3, h4, h5⟩ := noted_all h
 have e1 := undig_digs 4 _ (digs (zig x.a) ++ (digs (zig x.b) ++ (digs (zig x.c) ++ (digs (zig x.n) ++ r)))) (zig_lt h1)
 have e2 := undig_digs 4 _ (digs (zig x.b) ++ (digs (zig x.c) ++ (digs (zig x.n) ++ r))) (zig_lt h2)
 have e3 := undig_digs 4 _ (digs (zig x.c) ++ (digs (zig x.n) ++ r)) (zig_lt h3)
 have e4 := undig_digs 4 _ (digs (zig x.n) ++ r) (zig_lt h4)
 have e5 := undig_digs 4 _ r (zig_lt h5)
 simp only [nums5, bodyOf, List.append_assoc]
 simp only [e1, e2, e3, e4, e5, Option.map_some]
 rfl
def gNums (l : List Nat) : Option (List Nat × List Nat) := nums5 5 (l.drop 1)
def zeroA : ActS := ⟨0, 0, 0, 0, 0⟩
def gAct (l : List Nat) : ActS := match gNums l with
 | none => zeroA
 | some p => actOf p.1
def gOk (l : List Nat) : Bool := (gNums l).isSome
def guessR (l : List Nat) : Value := .tuple #[.agg (gAct l).cells, .bool (gOk l)]
theorem guess_no {l : List Nat} (h : gNums l = none) : .tuple #[.agg zeroA.cells, .bool false] = guessR l := by simp [guessR, gAct, gOk, h]
theorem guess_yes {l us t : List Nat} (h : gNums l = some (us, t)) (hu : us.length = 5) : .tuple #[.agg (act5 us).cells, .bool true] = guessR l := by simp [guessR, gAct, gOk, h, act5_of hu]
structure GS where
 k : Nat
 us : List Nat
 rest : List Nat
structure GsOk (B : List Nat) (s : GS) : Prop where
 k5 : s.k ≤ 5
 ul : s.us.length = s.k
 run : nums5 s.k B = some (s.us, s.rest)
 byt : Byt s.rest
 len : s.rest.length ≤ B.length
theorem GsOk.start {l : List Nat} (hb : Byt l) : GsOk (l.drop 1) ⟨0, [], l.drop 1⟩ := ⟨Nat.zero_le _, rfl, rfl, hb.drop 1, Nat.le_refl _⟩
theorem GsOk.next {B : List Nat} {s : GS} (o : GsOk B s) (hk : s.k < 5) {u : Nat} (hu : undig 5 s.rest = some (u, s.rest.drop (rnK s.rest))) : GsOk B ⟨s.k + 1, s.us ++ [u], s.rest.drop (rnK s.rest)⟩ := by
 have h1 := o.len
 refine ⟨hk, by simp [o.ul], ?_, o.byt.drop _, by simp only [List.length_drop]; omega⟩
 rw [nums5_step o.run, hu]; rfl
theorem GsOk.gone {B : List Nat} {s : GS} (o : GsOk B s) (hk : s.k < 5) (hu : undig 5 s.rest = none) : nums5 5 B = none := by
 have h1 : nums5 (s.k + 1) B = none := by rw [nums5_step o.run, hu]; rfl
 have := nums5_none h1 (4 - s.k)
 rwa [show s.k + 1 + (4 - s.k) = 5 by omega] at this
theorem guess_nil {l : List Nat} (h : l = []) : gNums l = none := by subst h; rfl
theorem stands_nums {x : ActS} {l : List Nat} (h : Stands x l) : ∃ t, gNums l = some ([zig x.kind, zig x.a, zig x.b, zig x.c, zig x.n], t) := by
 obtain ⟨nx, r, hr⟩ := h
 have e : l.drop 1 = bodyOf x ++ ([(sumOf (bodyOf x)).1 % 251, (sumOf (bodyOf x)).2 % 251] ++ r) := by rw [← hr]; simp [frameOf]
 exact ⟨_, by unfold gNums; rw [e]; exact nums5_body nx _⟩
theorem first_gone {l : List Nat} (h : gOk l = false) : first? l = none := (first_none _).2 fun x hx => by
 obtain ⟨t, ht⟩ := stands_nums hx
 simp [gOk, ht] at h
theorem first_other {l : List Nat} (h : gOk l = true) (hno : ¬ (noted (gAct l) = true ∧ frameOf (gAct l) <+: l)) : first? l = none := (first_none _).2 fun x hx => by
 obtain ⟨t, ht⟩ := stands_nums hx
 have e : gAct l = x := by simp only [gAct, ht]; exact actOf_zig x
 rw [e] at hno
 exact hno hx
theorem first_this {l : List Nat} (h1 : noted (gAct l) = true) (h2 : frameOf (gAct l) <+: l) : first? l = some (gAct l) := (first_iff _ _).2 ⟨h1, h2⟩
def rfAct (l : List Nat) : ActS := (first? l).getD zeroA
def rfLen (l : List Nat) : Nat := match first? l with
 | none => 0
 | some x => (frameOf x).length
def rfOk (l : List Nat) : Bool := (first? l).isSome
def frontR (l : List Nat) : Value := .tuple #[.agg (rfAct l).cells, I (rfLen l : Nat), .bool (rfOk l)]
theorem front_no {l : List Nat} (h : first? l = none) : .tuple #[.agg zeroA.cells, I 0, .bool false] = frontR l := by simp [frontR, rfAct, rfLen, rfOk, h]
theorem front_yes {l : List Nat} {x : ActS} (h : first? l = some x) : .tuple #[.agg x.cells, I ((frameOf x).length : Nat), .bool true] = frontR l := by simp [frontR, rfAct, rfLen, rfOk, h]
theorem rf_yes {l : List Nat} (h : rfOk l = true) : first? l = some (rfAct l) ∧ rfLen l = (frameOf (rfAct l)).length := by
 unfold rfOk at h
 cases hq : first? l with
 | none => rw [hq] at h; cases h
 | some x => exact ⟨by simp [rfAct, hq], by simp [rfAct, rfLen, hq]⟩
theorem rf_no {l : List Nat} (h : rfOk l = false) : first? l = none := by
 unfold rfOk at h
 cases hq : first? l with
 | none => rfl
 | some x => rw [hq] at h; cases h
def begins (l f : List Nat) : Bool := decide (l.take f.length = f)
theorem begins_iff {l f : List Nat} : begins l f = true ↔ f <+: l := by
 unfold begins
 rw [decide_eq_true_iff, List.prefix_iff_eq_take]
 exact eq_comm
theorem begins_short {l f : List Nat} (h : ¬ f.length ≤ l.length) : begins l f = false := by
 cases hq : begins l f with
 | false => rfl
 | true => exact absurd (begins_iff.1 hq).length_le h
section
variable {P : Program} {f : Nat → Value} {dst : Option Nat} {ty : TypeId} {pos : String} {af : Array Edge} {gd : Option (Nat × Bool)} {C : World → Prop}
def least (a b : Int) : Int := if b < a then b else a
theorem v_least {x y : Operand} {ats : Array TypeId} {a b : Int} (hx : ev f x = I a) (hy : ev f y = I b) : Val P f C ⟨dst, .call ⟨.builtin .min, #[x, y], ats⟩, ty, pos, af, gd⟩ (I (least a b)) :=
 ⟨fun w _ => by simp [execOp, resolve, invoke, builtin, hx, hy, Builtin.min_, Builtin.min2, least]⟩
end
end Go.Proofs.Ytmkboljfbmlebab
namespace Go.Proofs.Ytmkboljfbmlebab
open Go.RowKit
set_option linter.unusedSimpArgs false
set_option linter.unusedVariables false
set_option maxRecDepth 100000
section
variable {P : Program} {ops : Array Oper} {K : (Nat → Value) → World → Prop} {rest : List Oper} {f : Nat → Value} {d : Nat} {ty : TypeId} {pos : String} {af : Array Edge} {w0 : World} {F : Addr → Value → Prop} {B L : List (Nat × Obj)}
theorem s_callWC {k : FuncId} {x : Operand} {xs : List Operand} {caps : List Value} {ats : Array TypeId} {R : (Addr → Value → Prop) → Value → List (Nat × Obj) → Prop} (hx : ev f x = .func (.func k) #[] caps.toArray) (hk : hasBody P k = true) (hg : GivesW P k (xs.map (ev f) ++ caps) F B R)
   (kk : ∀ (F' : Addr → Value → Prop) (v : Value) (B' : List (Nat × Obj)), More F F' → R F' v B' → sC P ops K rest (upd f d v) (Has w0 F' (B' ++ L))) :
   sC P ops K (⟨some d, .call ⟨.value x, xs.toArray, ats⟩, ty, pos, af, none⟩ :: rest) f (Has w0 F (B ++ L)) := by
 intro w hw
 unfold sw
 rw [if_pos wanted_free]
 unfold opk
 rw [run_callC hx hk w]
 exact (hg w0 L w hw).mono fun e w' ⟨v, B', F', he, hm, h', hr⟩ => ⟨_, he, kk F' v B' hm hr w' h'⟩
end
section
variable {P : Program} {fn : Func} {n t t2 : Nat} {f : Nat → Value} {w0 : World} {F0 F : Addr → Value → Prop} {L K B' : List (Nat × Obj)} {R : (Addr → Value → Prop) → Value → List (Nat × Obj) → Prop}
theorem n_doneW2 (hr : fn.results = #[.tmp t, .tmp t2]) (ht : t < n) (ht2 : t2 < n) (hm : More F0 F) (hs : ∀ w, Has w0 F L w → Has w0 F (B' ++ K) w) (hv : R F (.tuple #[f t, f t2]) B') : nC (retQ P fn n (retW w0 F0 K R)) .ret f (Has w0 F L) :=
 fun w hw => by
   refine ⟨.tuple #[f t, f t2], ?_, B', F, hm, hs w hw, hv⟩
   have e : (Fa n f).tmps[t]?.getD undef = f t := by simp [Fa, ht]
   have e2 : (Fa n f).tmps[t2]?.getD undef = f t2 := by simp [Fa, ht2]
   simp [results, hr, e, e2]
theorem n_doneI2 {v : Value} (hr : fn.results = #[.tmp t, .tmp t2]) (ht : t < n) (ht2 : t2 < n) (hv : .tuple #[f t, f t2] = v) :
   nC (retQ P fn n (fun v' w' => v' = v ∧ Bel w0.heap.size w0 w')) .ret f (Has w0 F L) := fun w hw => by
 refine ⟨.tuple #[f t, f t2], ?_, hv, hw.1⟩
 have e : (Fa n f).tmps[t]?.getD undef = f t := by simp [Fa, ht]
 have e2 : (Fa n f).tmps[t2]?.getD undef = f t2 := by simp [Fa, ht2]
 simp [results, hr, e, e2]
end
section
variable {P : Program} {f : Nat → Value} {C : World → Prop} {dst : Option Nat} {ty : TypeId} {pos : String} {af : Array Edge} {gd : Option (Nat × Bool)}
def ptrB (P : Program) (T : TypeId) : Bool := match P.underlying T with
 | some (.pointer _) => true
 | _ => false
theorem v_ptrNil {T t' : TypeId} {x y : Operand} {a : Option Addr} (hT : ptrB P T = true) (hx : ev f x = .pointer a) (hy : ev f y = .pointer none) : Val P f C ⟨dst, .binOp .eql T x y t', ty, pos, af, gd⟩ (.bool a.isNone) := by
 refine ⟨fun w _ => ?_⟩
 unfold ptrB at hT
 split at hT
 · rename_i e hu
   have hg : (eqGuard .eql T x y (.pointer a) (.pointer none)).run P w = .ok () w := by
     simp [eqGuard]
   have he : (Op.equal T (.pointer a) (.pointer none)).run P w = .ok a.isNone w := by
     unfold Op.equal
     show (Op.equalIn (_ + 1) T _ _).run P w = _
     unfold Op.equalIn
     simp only [Sem.run_bind]
     rw [run_underlying hu]
     cases a <;> simp
   simp [execOp, hx, hy, hg, binOp, he]
 · cases hT
end
def PaysO (pa : Option Addr) (pl pc : Nat) (ps : List PayS) (E : List (Nat × Obj)) : Prop :=
 ps.length = pl ∧ pl ≤ pc ∧ ((pl = 0 ∧ E = []) ∨ ∃ b t cs, pa = some ⟨b, 0, none⟩ ∧ E = [(b, .cells cs t (0, 0))] ∧ cs.size = pc * 6 ∧ CellsOf cs ps)
theorem PaysE.o {pa : Option Addr} {pl pc : Nat} {ps : List PayS} {E : List (Nat × Obj)} (h : PaysE pa pl pc ps E) : PaysO pa pl pc ps E := ⟨h.1, h.2.1, h.2.2.imp (fun e => ⟨e.2.1, e.2.2.2⟩) id⟩
theorem PaysO.known {F : Addr → Value → Prop} {pa : Option Addr} {pl pc : Nat} {ps : List PayS} {E : List (Nat × Obj)} (h : PaysO pa pl pc ps E) (hk : Knows F E) : PaysIn F pa pl ps := by
 refine ⟨h.1, ?_⟩
 rcases h.2.2 with ⟨h0, _⟩ | ⟨b, t, cs, rfl, rfl, h1, h2⟩
 · exact .inl h0
 · refine .inr ⟨b, 0, rfl, fun j p hj k v hv => ?_⟩
   rw [Nat.zero_add]
   exact hk b cs t (0, 0) (by simp) _ _ (h2 j p hj k v hv)
theorem PaysO.some {pa : Option Addr} {pl pc : Nat} {ps : List PayS} {E : List (Nat × Obj)} (h : PaysO pa pl pc ps E) (h0 : 0 < pl) : ∃ b t cs, pa = some ⟨b, 0, none⟩ ∧ E = [(b, .cells cs t (0, 0))] ∧ cs.size = pc * 6 ∧ CellsOf cs ps := by
 rcases h.2.2 with ⟨h1, _⟩ | h
 · omega
 · exact h
def IntsO (xs : List Int) (v : Value) (E : List (Nat × Obj)) : Prop :=
 ∃ a c, v = .slice a xs.length c ∧ xs.length ≤ c ∧ ((xs = [] ∧ E = []) ∨ ∃ b t cs, a = some ⟨b, 0, none⟩ ∧ E = [(b, .cells cs t (0, 0))] ∧ cs.size = c ∧ ∀ (j : Nat) (x : Int), xs[j]? = some x → cs[j]? = some (I x))
theorem ListE.ints {e : Nat} {v : Value} {xs : List Int} {E : List (Nat × Obj)} (h : ListE e 1 v xs.length (xs.map I) E) : IntsO xs v E := by
 rcases h.2 with ⟨rfl, h2, h3⟩ | ⟨g, cap, cur, rfl, rfl, h3, h4, h5, h6⟩
 · exact ⟨none, 0, by rw [h2], by omega, .inl ⟨List.length_eq_zero_iff.1 h2, h3⟩⟩
 · refine ⟨_, cap, rfl, h3, .inr ⟨g, e, cur, rfl, rfl, by omega, fun j x hj => ?_⟩⟩
   have hjl := (List.getElem?_eq_some_iff.1 hj).1
   have : (cur.toList.take (xs.length * 1))[j]? = some (I x) := by rw [h6]; simp [hj]
   rw [List.getElem?_take, if_pos (by omega)] at this
   simpa using this
theorem IntsO.known {F : Addr → Value → Prop} {xs : List Int} {a : Option Addr} {l c : Nat} {E : List (Nat × Obj)} (h : IntsO xs (.slice a l c) E) (hk : Knows F E) : IntsAt F a xs := by
 obtain ⟨a', c', hv, hc, h⟩ := h
 simp only [Value.slice.injEq] at hv
 obtain ⟨rfl, rfl, rfl⟩ := hv
 rcases h with ⟨h, _⟩ | ⟨b, t, cs, rfl, rfl, h1, h2⟩
 · exact .inl h
 · exact .inr ⟨b, 0, rfl, fun j x hj => by rw [Nat.zero_add]; exact hk b cs t (0, 0) (by simp) j _ (h2 j x hj)⟩
def Lies (w : World) (B : List (Nat × Obj)) : Prop := ∀ p ∈ B, w.heap[p.1]? = some p.2
theorem lies_of {w0 w : World} {F : Addr → Value → Prop} {B L : List (Nat × Obj)} (h : Has w0 F L w) (hs : ∀ p ∈ B, p ∈ L) : Lies w B := fun p hp => (h.2.2.1 p (hs p hp)).2
def BGood (s : BankS) : Prop := ∃ log lost, BOk s log lost
theorem bgood_new : BGood newB := ⟨_, _, bok_new⟩
theorem BGood.act {s : BankS} (h : BGood s) (a : ActS) : BGood (doM s a).1 := by
 obtain ⟨log, lost, h⟩ := h
 obtain ⟨log', lost', _, h'⟩ := h.act a
 exact ⟨log', lost', h'⟩
structure BankOk where
 Rep : (Addr → Value → Prop) → Nat → List (Nat × Obj) → BankS → Prop
 mono : ∀ {F F' : Addr → Value → Prop} {b : Nat} {B : List (Nat × Obj)} {s : BankS}, Rep F b B s → More F F' → Rep F' b B s
 new : ∀ w, GivesE Try.prog 40 [] w (fun v E => ∃ b, v = .pointer (some ⟨b, 0, none⟩) ∧ ∀ F, Rep F b E newB)
 act : ∀ (F : Addr → Value → Prop) (b : Nat) (B : List (Nat × Obj)) (s : BankS) (a : ActS), BGood s → Rep F b B s → GivesW Try.prog 17 [.pointer (some ⟨b, 0, none⟩), .agg a.cells] F B (fun F' v B' => ∃ v1 E B1, B' = E ++ B1 ∧ v = .agg (repC (doM s a).2.code (doM s a).2.n v1) ∧ IntsO (doM s a).2.done v1 E ∧ Rep F' b B1 (doM s a).1)
 house : ∀ (w : World) (b : Nat) (B : List (Nat × Obj)) (s : BankS), BGood s → Rep (At w) b B s → Lies w B → GivesE Try.prog 19 [.pointer (some ⟨b, 0, none⟩)] w (fun v E => ∃ h : H, v = .agg h.cells ∧ h.core = s.c ∧ PaysO h.pa h.pl h.pc s.ps E)
 book : ∀ (w : World) (b : Nat) (B : List (Nat × Obj)) (s : BankS), BGood s → Rep (At w) b B s → Lies w B → Gives Try.prog 15 [.pointer (some ⟨b, 0, none⟩)] w (.tuple #[S s.text, .bool (!s.down)])
section
variable {ops : Array Oper} {K : (Nat → Value) → World → Prop} {rest : List Oper} {f : Nat → Value} {d : Nat} {ty : TypeId} {pos : String} {af : Array Edge} {w0 : World} {F : Addr → Value → Prop} {B L : List (Nat × Obj)}
theorem s_do (bk : BankOk) {b : Nat} {s : BankS} {a : ActS} {x y : Operand} {ats : Array TypeId} (hg : BGood s) (hr : bk.Rep F b B s) (hx : ev f x = .pointer (some ⟨b, 0, none⟩)) (hy : ev f y = .agg a.cells)
   (kk : ∀ (F' : Addr → Value → Prop) (v1 : Value) (E B1 : List (Nat × Obj)), More F F' → IntsO (doM s a).2.done v1 E → bk.Rep F' b B1 (doM s a).1 → sC Try.prog ops K rest (upd f d (.agg (repC (doM s a).2.code (doM s a).2.n v1))) (Has w0 F' (E ++ (B1 ++ L)))) :
   sC Try.prog ops K (⟨some d, .call ⟨.value (.func 17), #[x, y], ats⟩, ty, pos, af, none⟩ :: rest) f (Has w0 F (B ++ L)) := by
 refine s_callW (xs := [x, y]) (R := _) (by kernel_rfl) (show GivesW _ _ ([x, y].map (ev f)) F B _ from (by simp only [List.map_cons, List.map_nil, hx, hy]; exact bk.act F b B s a hg hr)) ?_
 rintro F' v B' hm ⟨v1, E, B1, rfl, rfl, hi, hr'⟩
 refine s_weak (fun w hw => ?_) (kk F' v1 E B1 hm hi hr')
 rw [List.append_assoc] at hw; exact hw
end
end Go.Proofs.Ytmkboljfbmlebab
