/- What the laws of this place stand on, part 9. Each part names its own conditions in what it states. -/
import Derived.Test.YtmkboljfbmlebacGreatQ8
import Derived.Laws.CopyRow
namespace Go.Proofs.YtmkboljfbmlebacGreat
open Go.RowKit
set_option linter.unusedSimpArgs false
set_option linter.unusedVariables false
section
variable {P : Program} {n : Nat} {σ : Type} {T : Array Bool → σ → World → Prop} {le : σ → World → σ → World → Prop} {f : Nat → Value} {l : List Oper} {Ψ : Nat → Value → σ → World → Prop} {Q : Exit → (Nat → Value) → World → Prop} {C : World → Prop}
def StepOb (P : Program) (T : Array Bool → σ → World → Prop) (le : σ → World → σ → World → Prop) (f : Nat → Value) (l : List Oper) (Ψ : Nat → Value → σ → World → Prop) (i : Nat) (o : Oper) : Prop :=
 ∀ (s : Array Bool) (st : σ) (g : Nat → Value) (w : World), s.size = l.length → s[i]? = some false → (∀ e ∈ o.after, Region.binds .any e = true → s.getD e.on false = true) → T s st w →
   (∀ t ∈ o.looksAt l.toArray, (t ∈ dstsOf l → Ψ t (g t) st w) ∧ (t ∉ dstsOf l → g t = f t)) →
   if Region.wanted o (yf l.toArray g) then opk P o g w (fun g' w' => ∃ v, g' = updo g o.dst v ∧ ∃ st', T (s.setIfInBounds i true) st' w' ∧ le st w st' w' ∧ ∀ d, o.dst = some d → Ψ d v st' w')
   else ∃ st', T (s.setIfInBounds i true) st' w ∧ le st w st' w ∧ ∀ d, o.dst = some d → Ψ d undef st' w
structure FlowInvS (T : Array Bool → σ → World → Prop) (f : Nat → Value) (l : List Oper) (Ψ : Nat → Value → σ → World → Prop) (s : Array Bool) (st : σ) (g : Nat → Value) (w : World) : Prop where
 size : s.size = l.length
 cls : T s st w
 done : ∀ (i : Nat) (o : Oper) (d : Nat), l[i]? = some o → s[i]? = some true → o.dst = some d → Ψ d (g d) st w
 out : ∀ t, t ∉ dstsOf l → g t = f t
theorem d_steps {id : Nat} (hm : P.follows .mixedOrders = true) (hB : opsB n l.toArray = true) (hF : flowB .any l = true) (hstab : ∀ d v st w st' w', le st w st' w' → Ψ d v st w → Ψ d v st' w')
   (h0 : ∀ w, C w → ∃ st, T (Array.replicate l.length false) st w.drew) (hst : ∀ i o, l[i]? = some o → StepOb P T le f l Ψ i o)
   (k : ∀ s st g w, (∀ i, i < l.length → s[i]? = some true) → T s st w → (∀ d ∈ dstsOf l, Ψ d (g d) st w) → (∀ t, t ∉ dstsOf l → g t = f t) → Q .normal g w) : cC P n (.region id l.toArray true) Q f C := by
 simp only [flowB, Bool.and_eq_true, decide_eq_true_eq, List.all_eq_true] at hF
 obtain ⟨⟨hnd, hsel⟩, hall⟩ := hF
 have hop : ∀ (i : Nat) (o : Oper), l[i]? = some o → (∀ t ∈ o.looksAt l.toArray, ∀ (j : Nat) (u : Oper), l[j]? = some u → u.dst = some t → ∃ e ∈ o.after, Region.binds .any e = true ∧ e.on = j) ∧ (∀ e ∈ o.after, Region.binds .any e = true → e.on < i) := by
   intro i o hi
   have := hall (o, i) (List.mem_zipIdx_iff_getElem?.2 hi)
   simp only [Bool.and_eq_true, List.all_eq_true] at this
   obtain ⟨h1, h2⟩ := this
   refine ⟨fun t ht j u hj hu => ?_, fun e he hb => ?_⟩
   · have := h1 t ht (u, j) (List.mem_zipIdx_iff_getElem?.2 hj)
     simp [hu] at this
     obtain ⟨i', hi', e1, e2⟩ := this
     exact ⟨_, Array.getElem_mem hi', e1, e2⟩
   · have := Array.all_eq_true_iff_forall_mem.1 h2 e he
     simpa [hb] using this
 have hB' : ∀ o ∈ l, operB n l.toArray o = true := by simpa [opsB] using hB
 have main : ∀ (fuel : Nat) (s : Array Bool) (st : σ) (g : Nat → Value) (w : World), FlowInvS T f l Ψ s st g w → s.toList.countP unset ≤ fuel → wpAny P .any l.toArray (fun e a w => ∃ f, a = Fa n f ∧ Q e f w) fuel s (Fa n g) w := by
   have all : ∀ (s : Array Bool) (st : σ) (g : Nat → Value) (w : World), FlowInvS T f l Ψ s st g w → Region.ready .any l.toArray s = [] → Q .normal g w := by
     intro s st g w inv hr
     have hls : ∀ i, i < l.length → s[i]? = some true := by
       intro i
       induction i using Nat.strongRecOn with
       | _ i ih =>
         intro hi
         have his : i < s.size := by rw [inv.size]; exact hi
         cases hv : s[i] with
         | true => simp [his, hv]
         | false =>
           exfalso
           have : i ∈ Region.ready .any l.toArray s := mem_ready.2 ⟨by simp [Array.getD, his, hv], l[i], by simp [hi], fun e he hb => by
             have hlt := (hop i l[i] (by simp [hi])).2 e he hb
             have := ih e.on hlt (by omega)
             have hsz := (Array.getElem?_eq_some_iff.1 this)
             obtain ⟨h1, h2⟩ := hsz
             simp [Array.getD, h1, h2]⟩
           rw [hr] at this
           cases this
     refine k s st g w hls inv.cls (fun d hd => ?_) inv.out
     obtain ⟨o, ho, hd'⟩ := List.mem_filterMap.1 hd
     obtain ⟨i, hi, he⟩ := List.getElem_of_mem ho
     exact inv.done i o d (by simp [hi, he]) (hls i hi) hd'
   intro fuel
   induction fuel with
   | zero =>
     intro s st g w inv hc
     have hr : Region.ready .any l.toArray s = [] := by
       cases hr : Region.ready .any l.toArray s with
       | nil => rfl
       | cons i r =>
         exfalso
         have hi := (mem_ready.1 (show i ∈ Region.ready .any l.toArray s by rw [hr]; simp)).1
         have : false ∈ s.toList := by
           by_cases hs : i < s.size
           · simp [Array.getD, hs] at hi
             rw [← hi]; simp
           · simp [Array.getD, hs] at hi
         have := List.countP_pos_iff (p := unset).2 ⟨false, this, rfl⟩
         omega
     exact ⟨hr, g, rfl, all s st g w inv hr⟩
   | succ fuel ih =>
     intro s st g w inv hc
     refine ⟨fun hr => ⟨g, rfl, all s st g w inv hr⟩, fun i hi => ?_⟩
     obtain ⟨hun, o, ho, hed⟩ := mem_ready.1 hi
     have hol : l[i]? = some o := by simpa using ho
     have hom : o ∈ l := List.mem_of_getElem? hol
     have his : i < s.size := by
       rcases Nat.lt_or_ge i s.size with h | h
       · exact h
       · have hn : ¬ i < s.size := by omega
         simp [Array.getD, hn] at hun
     have hfalse : s[i] = false := by simpa [Array.getD, his] using hun
     have hcount : (s.setIfInBounds i true).toList.countP unset ≤ fuel := by
       have e1 : unset (s.toList[i]'(by simpa using his)) = true := by simp [unset, hfalse]
       have h0 : 0 < s.toList.countP unset := List.countP_pos_iff.2 ⟨s.toList[i]'(by simpa using his), List.getElem_mem _, e1⟩
       rw [Array.toList_setIfInBounds, List.countP_set (by simpa using his), if_pos e1, if_neg (by simp [unset])]
       omega
     have hlk : ∀ t ∈ o.looksAt l.toArray, (t ∈ dstsOf l → Ψ t (g t) st w) ∧ (t ∉ dstsOf l → g t = f t) := fun t ht => ⟨fun htd => by
       obtain ⟨u, hu, hut⟩ := List.mem_filterMap.1 htd
       obtain ⟨j, hj, he⟩ := List.getElem_of_mem hu
       have hj' : l[j]? = some u := by simp [hj, he]
       obtain ⟨e, he1, he2, he3⟩ := (hop i o hol).1 t ht j u hj' hut
       have := hed e he1 he2
       rw [he3] at this
       refine inv.done j u t hj' ?_ hut
       have hjs : j < s.size := by rw [inv.size]; exact hj
       simp [Array.getD, hjs] at this
       simp [hjs, this], inv.out t⟩
     have next : ∀ v st' w', T (s.setIfInBounds i true) st' w' → le st w st' w' → (∀ d, o.dst = some d → Ψ d v st' w') → FlowInvS T f l Ψ (s.setIfInBounds i true) st' (updo g o.dst v) w' := by
       intro v st' w' hc hle hv
       refine ⟨by simp [inv.size], hc, fun j u d hj hs hu => ?_, fun t ht => ?_⟩
       · by_cases hji : j = i
         · subst hji
           rw [hol] at hj
           simp at hj; subst hj
           rw [hu]
           simp only [updo, upd_same]
           exact hv d hu
         · have hs' : s[j]? = some true := by rw [Array.getElem?_setIfInBounds_ne (Ne.symm hji)] at hs; exact hs
           have hne : o.dst ≠ some d := fun e => hji (dst_unique hnd hj hol hu e)
           have := hstab _ _ _ _ _ _ hle (inv.done j u d hj hs' hu)
           cases hod : o.dst with
           | none => exact this
           | some d' =>
             simp only [updo]
             rw [upd_other g v (fun e => hne (by rw [hod, e]))]
             exact this
       · cases hod : o.dst with
         | none => exact inv.out t ht
         | some d' =>
           simp only [updo]
           rw [upd_other g v (fun e => ht (List.mem_filterMap.2 ⟨o, hom, by rw [hod, e]⟩))]
           exact inv.out t ht
     have hob : if Region.wanted o (yf l.toArray g) then opk P o g w (fun g' w' => ∃ v, g' = updo g o.dst v ∧ ∃ st', FlowInvS T f l Ψ (s.setIfInBounds i true) st' (updo g o.dst v) w') else ∃ st', FlowInvS T f l Ψ (s.setIfInBounds i true) st' (updo g o.dst undef) w := by
       have hb := hst i o hol s st g w inv.size (by simp [his, hfalse]) hed inv.cls hlk
       split
       · rename_i hwt
         rw [if_pos hwt] at hb
         unfold opk at hb ⊢
         generalize (execOp (ev g) o).run P w = r at hb ⊢
         cases r with
         | ok nx' w' =>
           cases nx' <;> simp only at hb ⊢
           case value v => obtain ⟨v', e, st', h1, h2, h3⟩ := hb; exact ⟨v', e, st', next v' st' w' h1 h2 h3⟩
           case skip => obtain ⟨v', e, st', h1, h2, h3⟩ := hb; exact ⟨v', e, st', next v' st' w' h1 h2 h3⟩
           case enter fn args => exact Calls.mono hb fun e w'' ⟨v, he, v', e', st', h1, h2, h3⟩ => ⟨v, he, v', e', st', next v' st' w'' h1 h2 h3⟩
         | halt x w' => exact hb
       · rename_i hwt
         rw [if_neg hwt] at hb
         obtain ⟨st', h1, h2, h3⟩ := hb
         exact ⟨st', next undef st' w h1 h2 h3⟩
     unfold wpOp
     simp only [ho]
     rw [Fa_wanted (hB' o hom)]
     split
     · rename_i hw
       rw [if_pos hw] at hob
       refine Or.inl ?_
       unfold Oper.wp
       rw [Fa_exec (hB' o hom)]
       unfold opk at hob
       generalize (execOp (ev g) o).run P w = r at hob
       cases r with
       | ok nx w' =>
         cases nx <;> simp only at hob <;> simp only [Oper.upon]
         case value v =>
           obtain ⟨v', e, st', hinv⟩ := hob
           rw [Fa_put, e]
           exact ih _ _ _ _ hinv hcount
         case skip =>
           obtain ⟨v', e, st', hinv⟩ := hob
           rw [Fa_put, e]
           exact ih _ _ _ _ hinv hcount
         case enter fn args =>
           refine Calls.mono hob fun e w'' ⟨v, he, v', e', st', hinv⟩ => ?_
           subst he
           show wpAny P .any l.toArray _ fuel _ ((Fa n g).put o.dst v) w''
           rw [Fa_put, e']
           exact ih _ _ _ _ hinv hcount
       | halt x w' => exact hob.elim
     · rename_i hw
       rw [if_neg hw] at hob
       obtain ⟨st', hob⟩ := hob
       rw [Fa_put]
       exact ih _ _ _ _ hob hcount
 intro w hw
 refine wp_region_any hm ?_
 obtain ⟨st, h1⟩ := h0 w hw
 refine main _ _ st f w.drew ⟨by simp, by simpa using h1, fun i o d hi hs hd => ?_, fun _ _ => rfl⟩ ?_
 · rw [Array.getElem?_replicate] at hs
   split at hs <;> simp at hs
 · have := List.countP_le_length (p := unset) (l := (Array.replicate l.toArray.size false).toList)
   simpa using this
end
end Go.Proofs.YtmkboljfbmlebacGreat
namespace Go.Proofs.YtmkboljfbmlebacGreat
open Go.RowKit
set_option linter.unusedSimpArgs false
set_option linter.unusedVariables false
section
variable {P : Program} {ops : Array Oper} {K : (Nat → Value) → World → Prop} {rest : List Oper} {f : Nat → Value} {d : Nat} {ty : TypeId} {pos : String} {af : Array Edge} {w0 : World} {F : Addr → Value → Prop} {B L : List (Nat × Obj)}
theorem v_nilCheck {C : World → Prop} {dst : Option Nat} {gd : Option (Nat × Bool)} {x : Operand} {a : Addr} (hx : ev f x = .pointer (some a)) : Val P f C ⟨dst, .nilCheck x, ty, pos, af, gd⟩ (.pointer (some a)) :=
 ⟨fun w _ => by simp [execOp, hx]⟩
end
end Go.Proofs.YtmkboljfbmlebacGreat
namespace Go.Proofs.YtmkboljfbmlebacGreat
open Go.RowKit
set_option linter.unusedSimpArgs false
set_option linter.unusedVariables false
def ActsAt (F : Addr → Value → Prop) (a : Option Addr) (xs : List ActS) : Prop := xs = [] ∨ ∃ b o, a = some ⟨b, o, none⟩ ∧ ∀ (j : Nat) (x : ActS), xs[j]? = some x → ∀ (k : Nat) (v : Value), x.cells[k]? = some v → F ⟨b, o + j * 5 + k, none⟩ v
theorem ActsIn.at {F : Addr → Value → Prop} {v : Value} {xs : List ActS} (h : ActsIn F v xs) : ∃ a c, v = .slice a xs.length c ∧ ActsAt F a xs := by
 obtain ⟨a, c, h1, _, h3⟩ := h
 exact ⟨a, c, h1, h3⟩
theorem ActsAt.mono {F F' : Addr → Value → Prop} {a : Option Addr} {xs : List ActS} (h : ActsAt F a xs) (hm : More F F') : ActsAt F' a xs := by
 rcases h with h | ⟨b, o, h1, h2⟩
 · exact .inl h
 · exact .inr ⟨b, o, h1, fun j x hj k v hv => hm _ _ (h2 j x hj k v hv)⟩
theorem ActsAt.at {w0 w : World} {F : Addr → Value → Prop} {L : List (Nat × Obj)} {a : Option Addr} {xs : List ActS} (h : ActsAt F a xs) (hw : Has w0 F L w) : ActsAt (At w) a xs := h.mono hw.at
theorem ActsAt.get {F : Addr → Value → Prop} {a : Option Addr} {xs : List ActS} (h : ActsAt F a xs) {j : Nat} (hj : j < xs.length) : ∃ b o x, a = some ⟨b, o, none⟩ ∧ xs[j]? = some x ∧ ∀ (k : Nat) (v : Value), x.cells[k]? = some v → F ⟨b, o + j * 5 + k, none⟩ v := by
 rcases h with rfl | ⟨b, o, h1, h2⟩
 · simp at hj
 · exact ⟨b, o, xs[j], h1, by simp [hj], h2 j _ (by simp [hj])⟩
def ActS.list (x : ActS) : List Int := [x.kind, x.a, x.b, x.c, x.n]
theorem bytes_byt {xs : List ActS} (h : ∀ x ∈ xs, noted x = true) : Byt (bytesOf xs) := fun b hb => by
 obtain ⟨x, hx, hbx⟩ := List.mem_flatMap.1 hb
 exact frame_byte (h x hx) b hbx
end Go.Proofs.YtmkboljfbmlebacGreat
namespace Go.Proofs.YtmkboljfbmlebacGreat
open Go.RowKit
set_option linter.unusedSimpArgs false
set_option linter.unusedVariables false
def left (c : H) (i : Int) : Int := c.has i + c.cred i
end Go.Proofs.YtmkboljfbmlebacGreat
namespace Go.Proofs.YtmkboljfbmlebacGreat
open Go.RowKit
set_option linter.unusedSimpArgs false
set_option linter.unusedVariables false
structure BankS where
 c : H
 ps : List PayS
 text : List Nat
 down : Bool
 fail : Int
 acts : Nat
structure RepS where
 code : Int
 n : Int
 done : List Int
def errR (e : Int) : RepS := ⟨e, 0, []⟩
def NR.rep (r : NR) : RepS := ⟨r.code, r.n, r.done⟩
noncomputable def replayFrom (x : H × List PayS) (l : List ActS) : H × List PayS := l.foldl (fun x a => ((nextM x.1 x.2 a).c, (nextM x.1 x.2 a).ps)) x
noncomputable def replayM (l : List ActS) : H × List PayS := replayFrom (newM.core, []) l
theorem replay_snoc (l : List ActS) (a : ActS) : replayM (l ++ [a]) = ((nextM (replayM l).1 (replayM l).2 a).c, (nextM (replayM l).1 (replayM l).2 a).ps) := by
 simp [replayM, replayFrom, List.foldl_append]
def newB : BankS := ⟨newM.core, [], [], false, -1, 0⟩
noncomputable def doM (s : BankS) (a : ActS) : BankS × RepS :=
 bif decide (s.acts = 200) then (s, errR 5)
 else bif decide (a.kind = 11) then
   bif !s.down then ({ s with acts := s.acts + 1 }, errR 2)
   else ({ s with acts := s.acts + 1, c := (replayM (readM s.text)).1, ps := (replayM (readM s.text)).2, text := bytesOf (readM s.text), down := false }, ⟨0, (readM s.text).length, []⟩)
 else bif s.down then ({ s with acts := s.acts + 1 }, errR 7)
 else bif decide (a.kind = 10) then
   bif !withinB a.n 0 4000 then ({ s with acts := s.acts + 1 }, errR 3) else ({ s with acts := s.acts + 1, fail := a.n }, errR 0)
 else bif !decide ((nextM s.c s.ps a).code = 0) then ({ s with acts := s.acts + 1 }, (nextM s.c s.ps a).rep)
 else bif !noted a then ({ s with acts := s.acts + 1 }, errR 3)
 else bif decide (4000 < s.text.length + (frameOf a).length) then ({ s with acts := s.acts + 1 }, errR 5)
 else bif decide (0 ≤ s.fail) then ({ s with acts := s.acts + 1, text := s.text ++ (frameOf a).take s.fail.toNat, down := true, fail := -1 }, errR 7)
 else ({ s with acts := s.acts + 1, text := s.text ++ frameOf a, c := (nextM s.c s.ps a).c, ps := (nextM s.c s.ps a).ps }, (nextM s.c s.ps a).rep)
structure BInv (s : BankS) (log : List ActS) (lost : Option (ActS × Nat)) : Prop where
 noted : ∀ x ∈ log, noted x = true
 house : (s.c, s.ps) = replayM log
 up : s.down = false → s.text = bytesOf log ∧ lost = none
 low : s.down = true → ∃ a m, lost = some (a, m) ∧ Proofs.YtmkboljfbmlebacGreat.noted a = true ∧ s.text = bytesOf log ++ (frameOf a).take m ∧ s.fail = -1
 len : s.text.length ≤ 4000
theorem newB_inv : BInv newB [] none where
 noted := fun x hx => by cases hx
 house := rfl
 up := fun _ => ⟨rfl, rfl⟩
 low := fun h => by cases h
 len := by simp [newB]
theorem bytes_app (l r : List ActS) : bytesOf (l ++ r) = bytesOf l ++ bytesOf r := by simp [bytesOf]
theorem bytes_one (a : ActS) : bytesOf [a] = frameOf a := by simp [bytesOf]
theorem read_lost {log : List ActS} {a : ActS} {m : Nat} (hl : ∀ x ∈ log, noted x = true) (ha : noted a = true) : readM (bytesOf log ++ (frameOf a).take m) = log ∨ readM (bytesOf log ++ (frameOf a).take m) = log ++ [a] := by
 rcases Nat.lt_or_ge m (frameOf a).length with h | h
 · refine .inl (readM_all log hl _ fun y hy => ?_)
   have h1 := first_cut ha (l := (frameOf a).take m) (List.take_prefix _ _) (by simp; omega)
   exact (first_none _).1 h1 y hy
 · right
   rw [List.take_of_length_le h, ← bytes_one a, ← bytes_app]
   exact readM_self fun x hx => by
     rcases List.mem_append.1 hx with hx | hx
     · exact hl x hx
     · simp at hx; subst hx; exact ha
inductive DoStep (s : BankS) (log : List ActS) (lost : Option (ActS × Nat)) (a : ActS) : BankS → RepS → List ActS → Option (ActS × Nat) → Prop
 | full : s.acts = 200 → DoStep s log lost a s (errR 5) log lost
 | same (r : RepS) : s.acts ≠ 200 → r.code ≠ 0 → r.n = 0 → r.done = [] → (r.code = 7 ↔ s.down = true) → (s.down = true → a.kind ≠ 11) → DoStep s log lost a { s with acts := s.acts + 1 } r log lost
 | opened (log' : List ActS) : s.acts ≠ 200 → s.down = true → a.kind = 11 → (∀ x m, lost = some (x, m) → log' = log ∨ log' = log ++ [x]) → DoStep s log lost a { s with acts := s.acts + 1, c := (replayM log').1, ps := (replayM log').2, text := bytesOf log', down := false } ⟨0, log'.length, []⟩ log' none
 | failing : s.acts ≠ 200 → s.down = false → a.kind = 10 → (0 ≤ a.n ∧ a.n ≤ 4000) → DoStep s log lost a { s with acts := s.acts + 1, fail := a.n } (errR 0) log lost
 | fell (m : Nat) : s.acts ≠ 200 → s.down = false → a.kind ≠ 10 → a.kind ≠ 11 → 0 ≤ s.fail → m = s.fail.toNat → (nextM s.c s.ps a).code = 0 → noted a = true → DoStep s log lost a { s with acts := s.acts + 1, text := s.text ++ (frameOf a).take m, down := true, fail := -1 } (errR 7) log (some (a, m))
 | went : s.acts ≠ 200 → s.down = false → a.kind ≠ 10 → a.kind ≠ 11 → ¬ 0 ≤ s.fail → (nextM s.c s.ps a).code = 0 → noted a = true → DoStep s log lost a { s with acts := s.acts + 1, text := s.text ++ frameOf a, c := (nextM s.c s.ps a).c, ps := (nextM s.c s.ps a).ps } (nextM s.c s.ps a).rep (log ++ [a]) none
theorem next_code (c : H) (ps : List PayS) (a : ActS) : (nextM c ps a).code ≤ 6 := by
 unfold nextM
 simp only [Bool.cond_eq_ite]
 repeat' split
 all_goals simp [errN, sweepN]
theorem next_refused {c : H} {ps : List PayS} {a : ActS} (h : ¬ (nextM c ps a).code = 0) : (nextM c ps a).n = 0 ∧ (nextM c ps a).done = [] ∧ (nextM c ps a).code ≠ 7 := by
 have s := next_step c ps a
 have hc := next_code c ps a
 generalize nextM c ps a = r at s h hc
 refine ⟨?_, ?_, by omega⟩
 all_goals
   cases s with
   | err e he => rfl
   | close h1 => exact absurd rfl h
   | mid m => exact absurd rfl h
theorem do_step {s : BankS} {log : List ActS} {lost : Option (ActS × Nat)} (v : BInv s log lost) (a : ActS) : ∃ log' lost', DoStep s log lost a (doM s a).1 (doM s a).2 log' lost' ∧ BInv (doM s a).1 log' lost' := by
 have tick : BInv { s with acts := s.acts + 1 } log lost := ⟨v.noted, v.house, v.up, v.low, v.len⟩
 by_cases h200 : s.acts = 200
 · have e : doM s a = (s, errR 5) := by simp [doM, h200]
   rw [e]
   exact ⟨log, lost, .full h200, v⟩
 by_cases hk : a.kind = 11
 · cases hd : s.down with
   | false =>
     have e : doM s a = ({ s with acts := s.acts + 1 }, errR 2) := by simp [doM, h200, hk, hd]
     rw [e]
     exact ⟨log, lost, .same _ h200 (by simp [errR]) rfl rfl (by simp [errR, hd]) (by simp [hd]), tick⟩
   | true =>
     obtain ⟨x, m, hl, hx, ht, hf⟩ := v.low hd
     have e : doM s a = ({ s with acts := s.acts + 1, c := (replayM (readM s.text)).1, ps := (replayM (readM s.text)).2, text := bytesOf (readM s.text), down := false }, ⟨0, (readM s.text).length, []⟩) := by simp [doM, h200, hk, hd]
     rw [e]
     refine ⟨readM s.text, none, .opened _ h200 hd hk (fun y k hy => ?_), (readM_bytes s.text).2, rfl, fun _ => ⟨rfl, rfl⟩, fun h => (by cases h), ?_⟩
     · rw [hl] at hy
       simp at hy
       obtain ⟨rfl, rfl⟩ := hy
       rw [ht]
       exact read_lost v.noted hx
     · exact Nat.le_trans (readM_bytes s.text).1.length_le v.len
 cases hd : s.down with
 | true =>
   have e : doM s a = ({ s with acts := s.acts + 1 }, errR 7) := by simp [doM, h200, hk, hd]
   rw [e]
   exact ⟨log, lost, .same _ h200 (by simp [errR]) rfl rfl (by simp [errR, hd]) (fun _ => hk), tick⟩
 | false =>
   obtain ⟨ht, hlo⟩ := v.up hd
   by_cases h10 : a.kind = 10
   · cases hw : withinB a.n 0 4000 with
     | false =>
       have e : doM s a = ({ s with acts := s.acts + 1 }, errR 3) := by simp [doM, h200, hd, h10, hw]
       rw [e]
       exact ⟨log, lost, .same _ h200 (by simp [errR]) rfl rfl (by simp [errR, hd]) (by simp [hd]), tick⟩
     | true =>
       have e : doM s a = ({ s with acts := s.acts + 1, fail := a.n }, errR 0) := by simp [doM, h200, hd, h10, hw]
       rw [e]
       exact ⟨log, lost, .failing h200 hd h10 (within_iff.1 hw), v.noted, v.house, v.up, fun h => (by simp only at h; rw [hd] at h; cases h), v.len⟩
   · by_cases hc : (nextM s.c s.ps a).code = 0
     · cases hn : noted a with
       | false =>
         have e : doM s a = ({ s with acts := s.acts + 1 }, errR 3) := by simp [doM, h200, hk, hd, h10, hc, hn]
         rw [e]
         exact ⟨log, lost, .same _ h200 (by simp [errR]) rfl rfl (by simp [errR, hd]) (by simp [hd]), tick⟩
       | true =>
         by_cases hl : 4000 < s.text.length + (frameOf a).length
         · have e : doM s a = ({ s with acts := s.acts + 1 }, errR 5) := by simp [doM, h200, hk, hd, h10, hc, hn, hl]
           rw [e]
           exact ⟨log, lost, .same _ h200 (by simp [errR]) rfl rfl (by simp [errR, hd]) (by simp [hd]), tick⟩
         · by_cases hf : 0 ≤ s.fail
           · have e : doM s a = ({ s with acts := s.acts + 1, text := s.text ++ (frameOf a).take s.fail.toNat, down := true, fail := -1 }, errR 7) := by simp [doM, h200, hk, hd, h10, hc, hn, hl, hf]
             rw [e]
             exact ⟨log, some (a, s.fail.toNat), .fell _ h200 hd h10 hk hf rfl hc hn, v.noted, v.house, fun h => (by cases h), fun _ => ⟨a, _, rfl, hn, by simp only; rw [ht], rfl⟩, by
               simp only [List.length_append, List.length_take]; omega⟩
           · have e : doM s a = ({ s with acts := s.acts + 1, text := s.text ++ frameOf a, c := (nextM s.c s.ps a).c, ps := (nextM s.c s.ps a).ps }, (nextM s.c s.ps a).rep) := by simp [doM, h200, hk, hd, h10, hc, hn, hl, hf]
             rw [e]
             have hh := v.house
             have h1 : (replayM log).1 = s.c := by rw [← hh]
             have h2 : (replayM log).2 = s.ps := by rw [← hh]
             refine ⟨log ++ [a], none, .went h200 hd h10 hk hf hc hn, fun x hx => ?_, ?_, fun _ => ⟨?_, rfl⟩, fun h => (by simp only at h; rw [hd] at h; cases h), ?_⟩
             · rcases List.mem_append.1 hx with hx | hx
               · exact v.noted x hx
               · simp at hx; subst hx; exact hn
             · rw [replay_snoc, h1, h2]
             · simp only; rw [ht, bytes_app, bytes_one]
             · simp only [List.length_append]; omega
     · have e : doM s a = ({ s with acts := s.acts + 1 }, (nextM s.c s.ps a).rep) := by simp [doM, h200, hk, hd, h10, hc]
       rw [e]
       obtain ⟨h1, h2, h3⟩ := next_refused hc
       exact ⟨log, lost, .same _ h200 hc h1 h2 (by simp only [NR.rep, hd]; constructor; exact fun h => absurd h h3; intro h; cases h) (by simp [hd]), tick⟩
end Go.Proofs.YtmkboljfbmlebacGreat
namespace Go.Proofs.YtmkboljfbmlebacGreat
open Go.RowKit
set_option linter.unusedSimpArgs false
set_option linter.unusedVariables false
theorem inv_new : Inv 0 newM.core [] where
 len := by simp
 pays := fun p hp => by cases hp
 seqs := by simp
 next := ⟨Int.le_refl _, Int.le_refl _⟩
 cred := fun i hi => by show (0:Int) ≤ 0 ∧ (0:Int) ≤ 1000000; omega
 lim := fun i j hi hj => by show (-1:Int) ≤ -1 ∧ (-1:Int) ≤ 1000000; omega
 sums := fun i j hi hj => rfl
 ext := fun i hi => by show -(0 * 1000000) ≤ (0:Int) + (0 + 0 + 0 + 0) - (0 + 0 + 0 + 0) ∧ (0:Int) + (0 + 0 + 0 + 0) - (0 + 0 + 0 + 0) ≤ 0 * 1000000; omega
theorem rests_new : Rests newM.core [] := rests_none fun p hp => by cases hp
theorem replay_ok (log : List ActS) (h : log.length ≤ 900) : Inv log.length (replayM log).1 (replayM log).2 ∧ Rests (replayM log).1 (replayM log).2 := by
 obtain ⟨r, hr⟩ : ∃ r, r = log.reverse := ⟨_, rfl⟩
 induction r generalizing log with
 | nil =>
   have : log = [] := by have := congrArg List.reverse hr; simpa using this.symm
   subst this
   exact ⟨inv_new, rests_new⟩
 | cons a r ih =>
   have e : log = r.reverse ++ [a] := by have := congrArg List.reverse hr; simpa using this.symm
   subst e
   simp only [List.length_append, List.length_cons, List.length_nil] at h
   obtain ⟨h1, h2⟩ := ih r.reverse (by omega) (by simp)
   rw [replay_snoc]
   have hs := next_step (replayM r.reverse).1 (replayM r.reverse).2 a
   have hk : ((r.reverse.length : Nat) : Int) ≤ 900 := by omega
   refine ⟨?_, rests_act h1 hk h2 hs⟩
   have := h1.act hk hs
   simpa using this
structure BOk (s : BankS) (log : List ActS) (lost : Option (ActS × Nat)) : Prop where
 inv : BInv s log lost
 count : log.length + (if lost.isSome then 1 else 0) ≤ s.acts
 acts : s.acts ≤ 200
theorem bok_new : BOk newB [] none := ⟨newB_inv, by simp [newB], by simp [newB]⟩
theorem BOk.house {s : BankS} {log : List ActS} {lost : Option (ActS × Nat)} (b : BOk s log lost) : Inv 200 s.c s.ps ∧ Rests s.c s.ps := by
 have h1 := b.count
 have h2 := b.acts
 have hl : log.length ≤ 200 := by omega
 obtain ⟨i, r⟩ := replay_ok log (by omega)
 rw [← b.inv.house] at i r
 exact ⟨i.mono (by omega), r⟩
theorem BOk.act {s : BankS} {log : List ActS} {lost : Option (ActS × Nat)} (b : BOk s log lost) (a : ActS) : ∃ log' lost', DoStep s log lost a (doM s a).1 (doM s a).2 log' lost' ∧ BOk (doM s a).1 log' lost' := by
 obtain ⟨log', lost', st, v⟩ := do_step b.inv a
 refine ⟨log', lost', st, v, ?_, ?_⟩
 · have hc := b.count
   generalize (doM s a).1 = s' at st
   generalize (doM s a).2 = r at st
   cases st with
   | full h => exact hc
   | same r h1 h2 h3 h4 h5 h6 => simp only; omega
   | opened l h1 h2 h3 h4 =>
     obtain ⟨x, m, hl, _⟩ := b.inv.low h2
     subst hl
     simp only [Option.isSome_some, if_true] at hc
     rcases h4 x m rfl with rfl | rfl
     · simp; omega
     · simp only [List.length_append, List.length_cons, List.length_nil, Option.isSome_none, Bool.false_eq_true, if_false]; omega
   | failing h1 h2 h3 h4 => simp only; omega
   | fell m h1 h2 h3 h4 h5 h6 h7 h8 =>
     obtain ⟨_, hl⟩ := b.inv.up h2
     subst hl
     simp only [Option.isSome_none, Option.isSome_some, Bool.false_eq_true, if_false, if_true] at hc ⊢; omega
   | went h1 h2 h3 h4 h5 h6 h7 =>
     obtain ⟨_, hl⟩ := b.inv.up h2
     subst hl
     simp only [List.length_append, List.length_cons, List.length_nil, Option.isSome_none, Bool.false_eq_true, if_false] at hc ⊢; omega
 · have ha := b.acts
   generalize (doM s a).1 = s' at st
   generalize (doM s a).2 = r at st
   cases st <;> (try simp only) <;> omega
noncomputable def playM (s : BankS) : List ActS → BankS
 | [] => s
 | a :: r => playM (doM s a).1 r
end Go.Proofs.YtmkboljfbmlebacGreat
namespace Go.Proofs.YtmkboljfbmlebacGreat
open Go.RowKit
set_option linter.unusedSimpArgs false
set_option linter.unusedVariables false
def Sets (ps : List PayS) : List Int → Prop
 | [] => True
 | i :: r => (∃ p, settles ps i = some p) ∧ Sets (settleP ps i) r
theorem chain_sets : ∀ (xs : List Int) (c : H) (ps : List PayS), Chain c ps xs → Sets ps xs
 | [], _, _, _ => trivial
 | i :: r, c, ps, h => by
   obtain ⟨⟨b, _, hf⟩, hr⟩ := h
   obtain ⟨p, _, _, hs, _⟩ := firstM_spec hf
   exact ⟨⟨p, hs⟩, chain_sets r _ _ hr⟩
theorem sets_of : ∀ (xs : List Int) (ps : List PayS), xs.Nodup → (∀ i ∈ xs, ∃ p, settles ps i = some p) → Sets ps xs
 | [], _, _, _ => trivial
 | i :: r, ps, hn, hq => by
   obtain ⟨h1, h2⟩ := List.nodup_cons.1 hn
   obtain ⟨p, hp⟩ := hq i (by simp)
   have i0 := (settles_spec hp).1
   refine ⟨⟨p, hp⟩, sets_of r _ h2 fun j hj => ?_⟩
   obtain ⟨q, hq'⟩ := hq j (by simp [hj])
   obtain ⟨j0, hqj, hs⟩ := settles_spec hq'
   have hne : j.toNat ≠ i.toNat := fun e => h1 (by have : j = i := by omega
                                                   rw [← this]; exact hj)
   exact ⟨q, settlesOf j0 (by rw [settleP_at hp, if_neg hne]; exact hqj) hs⟩
theorem sets_spec : ∀ (xs : List Int) (ps : List PayS), Sets ps xs → xs.Nodup ∧ (chainP ps xs).length = ps.length ∧ (∀ i ∈ xs, 0 ≤ i ∧ i < ps.length) ∧ ∀ (j : Nat) (p : PayS), ps[j]? = some p → ∃ q, (chainP ps xs)[j]? = some q ∧ (if (j : Int) ∈ xs then p.sta = 1 ∧ q.sta = 2 else q = p)
 | [], ps, _ => ⟨List.nodup_nil, rfl, fun i hi => (by cases hi), fun j p hp => ⟨p, hp, by simp⟩⟩
 | i :: r, ps, h => by
   obtain ⟨⟨p0, h0⟩, hr⟩ := h
   obtain ⟨i0, hpi, hs1⟩ := settles_spec h0
   obtain ⟨a1, a2, a3, a4⟩ := sets_spec r (settleP ps i) hr
   have hlen : (settleP ps i).length = ps.length := settleP_len ps i
   have hil : i.toNat < ps.length := (List.getElem?_eq_some_iff.1 hpi).1
   have hat : (settleP ps i)[i.toNat]? = some { p0 with sta := 2 } := by rw [settleP_at h0, if_pos rfl]
   have hni : i ∉ r := fun hm => by
     obtain ⟨q, _, hq⟩ := a4 i.toNat _ hat
     have e : ((i.toNat : Nat) : Int) = i := by omega
     rw [e, if_pos hm] at hq
     have := hq.1
     simp at this
   refine ⟨List.nodup_cons.2 ⟨hni, a1⟩, by simp only [chainP]; rw [a2, hlen], fun j hj => ?_, fun j p hp => ?_⟩
   · rcases List.mem_cons.1 hj with rfl | hj
     · omega
     · have := a3 j hj; rw [hlen] at this; exact this
   · simp only [chainP]
     by_cases hji : j = i.toNat
     · subst hji
       rw [hpi] at hp
       simp at hp; subst hp
       obtain ⟨q, h1, h2⟩ := a4 i.toNat _ hat
       have e : ((i.toNat : Nat) : Int) = i := by omega
       rw [e] at h2 ⊢
       rw [if_neg hni] at h2
       refine ⟨q, h1, ?_⟩
       rw [if_pos (by simp), h2]
       exact ⟨hs1, rfl⟩
     · have hat' : (settleP ps i)[j]? = some p := by rw [settleP_at h0, if_neg hji]; exact hp
       obtain ⟨q, h1, h2⟩ := a4 j p hat'
       refine ⟨q, h1, ?_⟩
       have e : ((j : Int) ∈ i :: r) ↔ (j : Int) ∈ r := by
         rw [List.mem_cons]
         constructor
         · rintro (e | e)
           · omega
           · exact e
         · exact .inr
       by_cases hm : (j : Int) ∈ r
       · rw [if_pos hm] at h2; rw [if_pos (e.2 hm)]; exact h2
       · rw [if_neg hm] at h2; rw [if_neg (fun h => hm (e.1 h))]; exact h2
theorem sets_append : ∀ (xs ys : List Int) (ps : List PayS), Sets ps xs → Sets (chainP ps xs) ys → Sets ps (xs ++ ys) ∧ chainP ps (xs ++ ys) = chainP (chainP ps xs) ys
 | [], _, _, _, h => ⟨h, rfl⟩
 | i :: r, ys, ps, h, h' => by
   obtain ⟨a, b⟩ := sets_append r ys (settleP ps i) h.2 h'
   exact ⟨⟨h.1, a⟩, b⟩
theorem sweep_sets {c : H} {ps : List PayS} (hg : goodB c ps = true) : Sets ps (sweepM c ps).xs ∧ (sweepM c ps).ps = chainP ps (sweepM c ps).xs := by
 obtain ⟨h1, _, h3⟩ := sweepM_goes hg
 exact ⟨chain_sets _ _ _ h1, h3⟩
theorem untie_sets (c : H) (ps : List PayS) : Sets ps (untieM c ps).xs := sets_of _ _ (allFirsts_nodup ps _) (fun i hi => allFirsts_settles hi)
structure Told (ps ps' : List PayS) (done : List Int) : Prop where
 len : ps.length ≤ ps'.length
 once : done.Nodup
 range : ∀ i ∈ done, 0 ≤ i ∧ i < ps'.length
 stays : ∀ (j : Nat) (p : PayS), ps[j]? = some p → ∃ q, ps'[j]? = some q ∧ (p.sta ≠ 1 → q.sta = p.sta)
 tells : ∀ (j : Nat) (q : PayS), ps'[j]? = some q → ((j : Int) ∈ done ↔ q.sta = 2 ∧ ∀ p, ps[j]? = some p → p.sta ≠ 2)
theorem told_of {ps ps1 : List PayS} {xs : List Int} (hl : ps.length ≤ ps1.length) (h1 : ∀ (j : Nat) (p : PayS), ps[j]? = some p → ∃ q, ps1[j]? = some q ∧ (p.sta ≠ 1 → q.sta = p.sta) ∧ (q.sta = 2 → p.sta = 2)) (h2 : ∀ (j : Nat) (q : PayS), ps1[j]? = some q → ps[j]? = none → q.sta ≠ 2) (hs : Sets ps1 xs) : Told ps (chainP ps1 xs) xs := by
 obtain ⟨a1, a2, a3, a4⟩ := sets_spec xs ps1 hs
 refine ⟨by rw [a2]; exact hl, a1, fun i hi => by rw [a2]; exact a3 i hi, fun j p hp => ?_, fun j q hq => ?_⟩
 · obtain ⟨q, hq, k1, k2⟩ := h1 j p hp
   obtain ⟨q', hq', k3⟩ := a4 j q hq
   refine ⟨q', hq', fun hn => ?_⟩
   split at k3
   · have := k1 hn; omega
   · rw [k3]; exact k1 hn
 · have hj : j < ps1.length := by have := (List.getElem?_eq_some_iff.1 hq).1; rw [a2] at this; exact this
   obtain ⟨q1, hq1⟩ : ∃ q1, ps1[j]? = some q1 := ⟨ps1[j], by simp [hj]⟩
   obtain ⟨q', hq', k3⟩ := a4 j q1 hq1
   rw [hq] at hq'
   simp at hq'; subst hq'
   by_cases hm : (j : Int) ∈ xs
   · rw [if_pos hm] at k3
     refine ⟨fun _ => ⟨k3.2, fun p hp h => ?_⟩, fun _ => hm⟩
     obtain ⟨q2, hq2, k1, _⟩ := h1 j p hp
     rw [hq1] at hq2; simp at hq2; subst hq2
     have := k1 (by omega)
     omega
   · rw [if_neg hm] at k3
     subst k3
     refine ⟨fun h => absurd h hm, fun ⟨h3, h4⟩ => ?_⟩
     exfalso
     cases hp : ps[j]? with
     | none => exact h2 j q hq1 hp h3
     | some p =>
       obtain ⟨q2, hq2, _, k2⟩ := h1 j p hp
       rw [hq1] at hq2; simp at hq2; subst hq2
       exact h4 p hp (k2 h3)
theorem told_same {ps : List PayS} {xs : List Int} (hs : Sets ps xs) : Told ps (chainP ps xs) xs :=
 told_of (Nat.le_refl _) (fun j p hp => ⟨p, hp, fun _ => rfl, id⟩) (fun j q hq hn => by rw [hq] at hn; cases hn) hs
theorem told_set {ps : List PayS} {n : Int} {p p' : PayS} {xs : List Int} (hn : settles ps n = some p) (h2 : p'.sta ≠ 2) (hs : Sets (ps.set n.toNat p') xs) : Told ps (chainP (ps.set n.toNat p') xs) xs := by
 obtain ⟨n0, hp, h1⟩ := settles_spec hn
 have hlt := (List.getElem?_eq_some_iff.1 hp).1
 refine told_of (by simp) (fun j q hq => ?_) (fun j q hq hnn => ?_) hs
 · by_cases hj : n.toNat = j
   · subst hj
     rw [hp] at hq; simp at hq; subst hq
     exact ⟨p', by simp [hlt], fun h => absurd h1 h, fun h => absurd h h2⟩
   · exact ⟨q, by rw [List.getElem?_set_ne hj]; exact hq, fun _ => rfl, id⟩
 · have : j < ps.length := by have := (List.getElem?_eq_some_iff.1 hq).1; simpa using this
   simp at hnn; omega
theorem told_act {k : Int} {c : H} {ps : List PayS} (v : Inv k c ps) (hk : k ≤ 900) {a : ActS} {r : NR} (s : Step c ps a r) : Told ps r.ps r.done := by
 cases s with
 | err e he => exact told_same (ps := ps) (xs := []) trivial
 | close h1 =>
   refine ⟨by simp, List.nodup_nil, fun i hi => (by cases hi), fun j p hp => ⟨goneP p, by simp [hp], fun h => by simp [goneP, h]⟩, fun j q hq => ⟨fun h => (by cases h), fun ⟨h2, h3⟩ => ?_⟩⟩
   simp only [List.getElem?_map] at hq
   cases hp : ps[j]? with
   | none => rw [hp] at hq; cases hq
   | some p =>
     rw [hp] at hq
     simp at hq
     subst hq
     have := h3 p hp
     by_cases h1 : p.sta = 1
     · simp [goneP, h1] at h2
     · simp [goneP, h1] at h2; exact absurd h2 this
 | mid m =>
   have hg := (v.mid hk m).good (by omega)
   obtain ⟨hs, he⟩ := sweep_sets hg
   simp only [sweepN]
   rw [he]
   cases m with
   | pay h1 hp hl hn =>
     refine told_of (by simp) (fun j p hp' => ⟨p, by rw [List.getElem?_append_left (List.getElem?_eq_some_iff.1 hp').1]; exact hp', fun _ => rfl, id⟩) (fun j q hq hnn => ?_) hs
     have hj : ps.length ≤ j := by simpa using hnn
     rw [List.getElem?_append_right hj] at hq
     have : q = newPay c a := by
       cases hx : j - ps.length with
       | zero => rw [hx] at hq; simpa using hq.symm
       | succ m => rw [hx] at hq; simp at hq
     subst this
     simp [newPay]
   | gone p h1 hs' => exact told_set hs' (by simp) hs
   | cls p h1 hs' hc hn => exact told_set hs' (by have := (settles_spec hs').2.2; simp only; omega) hs
   | cred h1 ha hn => exact told_same hs
   | lim h1 ha hb hne hn => exact told_same hs
   | fund h1 ha hn => exact told_same hs
   | spend h1 ha hn hl => exact told_same hs
   | untie h1 =>
     obtain ⟨a1, a2⟩ := sets_append (untieM c ps).xs (sweepM (untieM c ps).c (untieM c ps).ps).xs ps (untie_sets c ps) hs
     have := told_same a1
     rw [a2] at this
     exact this
end Go.Proofs.YtmkboljfbmlebacGreat
namespace Go.Proofs.YtmkboljfbmlebacGreat
open Go.RowKit
set_option linter.unusedSimpArgs false
set_option linter.unusedVariables false
theorem next_len {c : H} {ps : List PayS} {a : ActS} (h : ps.length ≤ 24) : (nextM c ps a).ps.length ≤ 24 := by
 have s := next_step c ps a
 generalize nextM c ps a = r at s
 cases s with
 | err e he => exact h
 | close h1 => simpa using h
 | mid m =>
   simp only [sweepN]
   rw [(sweepM_len _ _).1]
   cases m <;> (try simp only [List.length_append, List.length_set, List.length_cons, List.length_nil, untie_len]) <;> omega
structure RpG where
 F : Addr → Value → Prop
 h : H
 k : Nat
structure RpOk (w : World) (xs : List ActS) (t : RpG) : Prop where
 k : t.k ≤ xs.length
 more : More (At w) t.F
 core : t.h.core = (replayM (xs.take t.k)).1
 pays : PaysIn (Young w t.F) t.h.pa t.h.pl (replayM (xs.take t.k)).2
 lc : t.h.pl ≤ t.h.pc
 len : t.h.pl ≤ 24
theorem rpOk_start {w : World} {xs : List ActS} : RpOk w xs ⟨At w, newM, 0⟩ :=
 ⟨Nat.zero_le _, fun _ _ h => h, by simp [replayM, replayFrom], ⟨by simp [replayM, replayFrom, newM], .inl rfl⟩, Nat.le_refl _, Nat.zero_le _⟩
theorem replay_take {xs : List ActS} {k : Nat} {a : ActS} (h : xs[k]? = some a) : replayM (xs.take (k + 1)) = ((nextM (replayM (xs.take k)).1 (replayM (xs.take k)).2 a).c, (nextM (replayM (xs.take k)).1 (replayM (xs.take k)).2 a).ps) := by
 rw [List.take_add_one, h]
 exact replay_snoc _ _
theorem RpOk.step {w : World} {xs : List ActS} {t : RpG} (o : RpOk w xs t) {a : ActS} (ha : xs[t.k]? = some a) {F' : Addr → Value → Prop} (hF : More t.F F') {h' : H} {ps : List PayS} (hps : ps = (replayM (xs.take t.k)).2) (hc : h'.core = (nextM t.h.core ps a).c) (hl : h'.pl ≤ h'.pc)
   (hp : (h'.pa = t.h.pa ∧ h'.pl = t.h.pl ∧ (nextM t.h.core ps a).ps = ps) ∨ PaysIn (Young w F') h'.pa h'.pl (nextM t.h.core ps a).ps) : RpOk w xs ⟨F', h', t.k + 1⟩ := by
 subst hps
 have hr := replay_take ha
 rw [o.core] at hc hp
 have hpays : PaysIn (Young w F') h'.pa h'.pl (nextM (replayM (xs.take t.k)).1 (replayM (xs.take t.k)).2 a).ps := by
   rcases hp with ⟨e1, e2, e3⟩ | hp
   · rw [e1, e2, e3]; exact o.pays.mono (young_mono hF)
   · exact hp
 refine ⟨(List.getElem?_eq_some_iff.1 ha).1, fun a v h => hF a v (o.more a v h), by simp only; rw [hr, hc], by simp only; rw [hr]; exact hpays, hl, ?_⟩
 have h1 := hpays.1
 have h2 := next_len (c := (replayM (xs.take t.k)).1) (ps := (replayM (xs.take t.k)).2) (a := a) (by rw [o.pays.1]; exact o.len)
 simp only; omega
def ReplayF (xs : List ActS) (F : Addr → Value → Prop) (v : Value) : Prop := ∃ h : H, v = .agg h.cells ∧ h.core = (replayM xs).1 ∧ h.pl ≤ h.pc ∧ h.pl ≤ 24 ∧ PaysIn F h.pa h.pl (replayM xs).2
theorem replayF_mono (xs : List ActS) : Mono (ReplayF xs) := by
 rintro F F' v hm ⟨h, h1, h2, h3, h4, h5⟩
 exact ⟨h, h1, h2, h3, h4, h5.mono hm⟩
end Go.Proofs.YtmkboljfbmlebacGreat
namespace Go.Proofs.YtmkboljfbmlebacGreat
open Go.RowKit
set_option linter.unusedSimpArgs false
set_option linter.unusedVariables false
set_option maxRecDepth 100000
attribute [local irreducible] cC sC nC rC qw
set_option maxHeartbeats 1000000 in
theorem gr_ReplayActs (a0 : Option Addr) (c0 : Nat) (xs : List ActS) (w : World) (hx : ActsAt (At w) a0 xs) (hlx : xs.length ≤ 9223372036854775807) : GivesF Tryz.prog 15 [.slice a0 xs.length c0] w (ReplayF xs) := by
 refine givesF_of Tryz.func15 rfl Tryz.ntmps15 (by simp) (r_seq (by kernel_rfl) (s_alloc (z := .agg zeroH.cells) (by kernel_rfl) (fun b2 => ?_)))
 refine s_nil (r_seq (by kernel_rfl) (s_call (by kernel_rfl) (fun w hw => gr_NewHouse w) (s_alloc (z := .agg zeroH.cells) (by kernel_rfl) (fun b3 => ?_))))
 refine s_storeA (m := 42) (by kernel_rfl) rfl rfl .here (H.size _) (H.size _) (H.all1 _) (s_nil (c_seq (r_seq (by kernel_rfl) (s_val (v_move (v := .slice _ _ _) rfl) (s_val (v_lenS (T := 22) (m := 5) (by kernel_rfl) rfl rfl) (s_val (v_mvI rfl) (s_nil (c_block (c_loop (σ := RpG) (fun (t : RpG) f => ∃ g, (RpOk w xs t) ∧ f = (upd (upd (upd (upd (upd g 2 (.pointer (some ⟨b2, 0, none⟩))) 3 (.pointer (some ⟨b3, 0, none⟩))) 7 (.slice a0 xs.length c0)) 8 (I xs.length)) 9 (I t.k))) (fun (t : RpG) => Has w t.F [(b3, .cells t.h.cells 43), (b2, .cells zeroH.cells 43)]) (fun (t : RpG) => xs.length - t.k) ⟨At w, newM, 0⟩ ⟨_, rpOk_start, live5 rfl rfl rfl rfl rfl⟩ (fun w hw => hw) ?_)))))))))
 rintro t _ ⟨g, ho, rfl⟩
 refine r_seq (by kernel_rfl) (s_val (v_lsI rfl rfl) (s_nil (c_seq (c_condR rfl rfl (fun h10 => ?_) (fun h10 => ?_)))))
 · have hkl : t.k = xs.length := by have := of_decide_eq_false h10; have := ho.k; omega
   refine c_exit (n_exit (n_exit (n_bhere (n_then (r_seq (by kernel_rfl) (s_val (v_loadA (m := 42) (by kernel_rfl) rfl .here (H.size _)) (s_storeA (m := 42) (by kernel_rfl) rfl rfl (.there .here) (H.size _) (H.size _) (H.all1 _) (s_nil (c_ret (n_doneCF (m := 42) rfl (by decide) rfl (by kernel_rfl) (.there .here) (H.size _) (fun w hw => ⟨t.h, rfl, ?_, ho.lc, ho.len, ?_⟩)))))))))))
   · have := ho.core; rw [hkl, List.take_length] at this; exact this
   · have := ho.pays; rw [hkl, List.take_length] at this; exact this.mono (young_fresh hw)
 have hk0 := of_decide_eq_true h10
 obtain ⟨bx, ox, x, hax, hxk, hxc⟩ := hx.get (j := t.k) (by omega)
 have hpl24 := ho.len
 refine c_skip (n_then (c_seq (c_block (r_seq (by kernel_rfl) (s_val (v_idxS (size := 5) (k := .i64) (by kernel_rfl) (congrArg (fun a => Value.slice a xs.length c0) hax) rfl ⟨by omega, by omega⟩) (s_val (v_loadNo (cs := x.cells) (m := 5) (by kernel_rfl) rfl rfl (fun k v hv => ho.more _ _ (hxc k v hv))) (s_alloc (z := zeroOf Tryz.prog 34) (by kernel_rfl) (fun b5 => ?_))))))))
 refine s_storeA (m := 5) (by kernel_rfl) rfl rfl .here (by kernel_rfl) rfl (ActS.all1 _) (s_nil (r_list (by kernel_rfl) (s_val (v_loadA (m := 42) (by kernel_rfl) rfl (.there .here) (H.size _)) (s_val (v_loadA (m := 5) (by kernel_rfl) rfl .here rfl) (s_callG (by kernel_rfl) (nextF_mono _ _ _) (fun w hw => gr_NextHouse t.h (replayM (xs.take t.k)).2 x w ((ho.pays.mono (more_young _ _)).at hw) (by omega) ho.lc) (fun F16 v16 hF16 hR16 => ?_))))))
 obtain ⟨v17, v18, rfl, ⟨h17, rfl, hc17, hlc17, hp17⟩, a18, c18, rfl, _⟩ := hR16
 refine s_val (v_move (v := .tuple _) rfl) (s_val (v_extract rfl rfl) (s_val (v_extract rfl rfl) (s_storeA (m := 42) (by kernel_rfl) rfl rfl (.there .here) (H.size _) (H.size _) (H.all1 _) (s_end (n_bnormal (n_then (r_list (by kernel_rfl) (s_val (v_add rfl rfl (by omega)) (s_val (v_mvI rfl) (s_end (n_round (s := t) ⟨F16, h17, t.k + 1⟩ ⟨_, ho.step hxk hF16 rfl hc17 hlc17 hp17, live5 rfl rfl rfl rfl rfl⟩ (fun _ hw => hw.tail) (by have := ho.k; dsimp only; omega))))))))))))
end Go.Proofs.YtmkboljfbmlebacGreat
namespace Go.Proofs.YtmkboljfbmlebacGreat
open Go.RowKit
set_option linter.unusedSimpArgs false
set_option linter.unusedVariables false
def over (cs : Array Value) (o : Nat) (vs : List Value) : Array Value := (cs.toList.take o ++ vs ++ cs.toList.drop (o + vs.length)).toArray
section
variable {P : Program} {ops : Array Oper} {K : (Nat → Value) → World → Prop} {rest : List Oper} {f : Nat → Value} {ty : TypeId} {pos : String} {af : Array Edge} {w0 : World} {F : Addr → Value → Prop} {L : List (Nat × Obj)}
theorem s_storeP {T : TypeId} {x y : Operand} {b o t m : Nat} {cs cs1 cs' : Array Value} {L' : List (Nat × Obj)} (hT : sizeB P T m = true) (hx : ev f x = .pointer (some ⟨b, o, none⟩)) (hy : ev f y = .agg cs1)
   (ht : Turn L b (.cells cs t (0, 0)) (.cells cs' t (0, 0)) L') (hs : o + m ≤ cs.size) (hs' : cs1.size = m) (ho : over cs o cs1.toList = cs') (h1 : cs1.all (·.oneCell') = true) (kk : sC P ops K rest f (Has w0 F L')) :
   sC P ops K (⟨none, .store T x y, ty, pos, af, none⟩ :: rest) f (Has w0 F L) := by
 intro w hw
 unfold sw
 rw [if_pos wanted_free]
 unfold opk
 have hl := hw.look ht.look
 have hst := run_storeCells_at (P := P) b o t cs1.toList 0 cs w hl (by simp; omega) (fun v hv => (Array.all_eq_true_iff_forall_mem.1 h1) v (by simpa using hv))
 have hi := sizeB_info hT
 have : (execOp (ev f) ⟨none, .store T x y, ty, pos, af, none⟩).run P w = .ok .skip (w.setRow b cs') := by
   cases hq : P.info? T with
   | none => simp [hq] at hi
   | some i =>
     have hsz : m = i.size := by simp [hq] at hi; omega
     subst ho
     simp [over] at hst ⊢
     simp [execOp, hx, hy, Instr.storeAt, Instr.sureAddr, storeVar, sizeOf, typeInfo, hq, Value.cells, hs', hsz, hst]
 rw [this]
 exact kk _ (has_setRow hw ht)
end
def bankC (h : H) (t : List Nat) (d : Bool) (fl n : Int) : Array Value := h.cells ++ #[S t, .bool d, I fl, I n]
theorem bankC_size (h : H) (t : List Nat) (d : Bool) (fl n : Int) : (bankC h t d fl n).size = 46 := by simp [bankC, H.size]
theorem bankC_house (h : H) (t : List Nat) (d : Bool) (fl n : Int) : (bankC h t d fl n).extract (0 + 0) (0 + 0 + 42) = h.cells := by
 unfold bankC
 rw [Array.extract_append]
 simp [H.size]
theorem bankC_over (h h' : H) (t : List Nat) (d : Bool) (fl n : Int) : over (bankC h t d fl n) (0 + 0) h'.cells.toList = bankC h' t d fl n := by
 unfold over bankC
 apply Array.ext'
 simp [H.size]
end Go.Proofs.YtmkboljfbmlebacGreat
namespace Go.Proofs.YtmkboljfbmlebacGreat
open Go.RowKit
set_option linter.unusedSimpArgs false
set_option linter.unusedVariables false
set_option maxRecDepth 100000
attribute [local irreducible] cC sC nC rC qw
theorem gr_noB (e : Int) (w : World) : Gives Tryz.prog 22 [I e] w (.agg (repC e 0 (.slice none 0 0))) := by
 refine gives_of Tryz.func22 rfl Tryz.ntmps22 (by simp) (r_seq (by kernel_rfl) (s_alloc (z := .agg (repC 0 0 (.slice none 0 0))) (by kernel_rfl) (fun b2 => ?_)))
 refine s_nil (r_seq (by kernel_rfl) (s_val (v_mvI rfl) (s_val (v_build (vs := [(0, .int .i64 _)]) (cs := repC e 0 (.slice none 0 0)) rfl (by kernel_rfl)) (s_storeA (m := 3) (by kernel_rfl) rfl rfl .here rfl rfl rep_all (s_nil (c_ret (n_doneC (m := 3) rfl (by decide) rfl (by kernel_rfl) .here rep_size rfl)))))))
theorem gr_NewBank  (w : World) : GivesE Tryz.prog 6 [] w (fun v E => ∃ b, v = .pointer (some ⟨b, 0, none⟩) ∧ E = [(b, .cells (bankC newM [] false (-1) 0) 46 (0, 0))]) := by
 refine givesE_of Tryz.func6 rfl Tryz.ntmps6 (by simp) (r_seq (by kernel_rfl) (s_val (v_assign (v := .pointer _) rfl) (s_nil (r_seq (by kernel_rfl) (s_call (by kernel_rfl) (fun w hw => gr_NewHouse w) (s_val (v_build (vs := [(0, .agg _), (3, .int .i64 _)]) (cs := bankC newM [] false (-1) 0) rfl (by kernel_rfl)) (s_box (v := .agg _) rfl (fun b3 => ?_))))))))
 refine s_val (v_assign (v := .pointer _) rfl) (s_nil (c_ret (n_doneE (E := [_]) (L := []) rfl (by decide) ⟨b3, rfl, rfl⟩)))
end Go.Proofs.YtmkboljfbmlebacGreat
namespace Go.Proofs.YtmkboljfbmlebacGreat
open Go.RowKit
set_option linter.unusedSimpArgs false
set_option linter.unusedVariables false
set_option maxRecDepth 100000
attribute [local irreducible] cC sC nC rC qw
theorem gr_IsNoted (a : ActS) (w : World) : Gives Tryz.prog 38 [.agg a.cells] w (.bool (noted a)) := by
 refine gives_of Tryz.func38 rfl Tryz.ntmps38 (by simp) (r_seq (by kernel_rfl) (s_box (v := .agg _) rfl (fun b1 => ?_)))
 refine s_val (v_asB rfl) (s_nil (r_seq (by kernel_rfl) (s_val (v_asB rfl) (s_nil (c_seq (r_seq (by kernel_rfl) (s_val (v_fd 0 (by kernel_rfl) rfl) (s_val (v_ldI (by kernel_rfl) rfl .here rfl) (s_val (v_fd 1 (by kernel_rfl) rfl) (s_val (v_ldI (by kernel_rfl) rfl .here rfl) (s_val (v_fd 2 (by kernel_rfl) rfl) (s_val (v_ldI (by kernel_rfl) rfl .here rfl) (s_val (v_fd 3 (by kernel_rfl) rfl) (s_val (v_ldI (by kernel_rfl) rfl .here rfl) (s_val (v_fd 4 (by kernel_rfl) rfl) (s_val (v_ldI (by kernel_rfl) rfl .here rfl) (s_buildS (e := 3) (vs := [(0, .int .i64 _), (1, .int .i64 _), (2, .int .i64 _), (3, .int .i64 _), (4, .int .i64 _)]) (cs := #[I a.kind, I a.a, I a.b, I a.c, I a.n]) rfl (by kernel_rfl) (fun b16 => ?_))))))))))))))))))
 refine s_val (v_lenS (T := 29) (m := 1) (by kernel_rfl) rfl rfl) (s_val (v_mvI rfl) (s_nil (c_block (c_rounds 6 (r_succ (r_seq (by kernel_rfl) (s_val (v_lsI rfl rfl) (s_nil (c_seq (c_condTh rfl rfl rfl (c_skip (n_then (c_seq (c_block (r_seq (by kernel_rfl) (s_val (v_idxS (size := 1) (k := .i64) (by kernel_rfl) rfl rfl (by decide)) (s_val (v_ldI (by kernel_rfl) rfl .here rfl) (s_val (v_asI rfl) (s_nil ?_)))))))))))))))))))
 refine r_list (by kernel_rfl) (s_val (v_mvB rfl) (s_val (v_mvB rfl) (s_want rfl rfl rfl (s_val (v_mvI rfl) (s_want rfl rfl rfl (s_call (by kernel_rfl) (fun w hw => gr_within _ _ _ w) (s_val (v_pickT (v := .bool _) rfl rfl rfl) (s_val (v_asB rfl) (s_end (n_bnormal (n_then (r_list (by kernel_rfl) (s_val (v_addL (c := 1) rfl rfl (by decide) (by decide)) (s_val (v_mvI rfl) (s_end (n_thenR (r_succ (r_seq (by kernel_rfl) (s_val (v_lsI rfl rfl) ?_)))))))))))))))))))
 refine s_nil (c_seq (c_condTh rfl rfl rfl (c_skip (n_then (c_seq (c_block (r_seq (by kernel_rfl) (s_val (v_idxS (size := 1) (k := .i64) (by kernel_rfl) rfl rfl (by decide)) (s_val (v_ldI (by kernel_rfl) rfl .here rfl) (s_val (v_asI rfl) (s_nil (r_list (by kernel_rfl) (s_val (v_mvB rfl) (s_val (v_mvB rfl) (s_splitR (s := 23) rfl (fun h23 => ?_) (fun h23 => ?_))))))))))))))))
 · refine s_pass rfl rfl h23 (s_pass rfl rfl h23 (s_val (v_pickF (v := .bool _) rfl h23 rfl) (s_val (v_asB rfl) (s_end (n_bnormal (n_then (r_list (by kernel_rfl) (s_val (v_addL (c := 2) rfl rfl (by decide) (by decide)) (s_val (v_mvI rfl) (s_end (n_thenR (r_succ (r_seq (by kernel_rfl) (s_val (v_lsI rfl rfl) (s_nil (c_seq (c_condTh rfl rfl rfl (c_skip (n_then ?_)))))))))))))))))))
   refine c_seq (c_block (r_seq (by kernel_rfl) (s_val (v_idxS (size := 1) (k := .i64) (by kernel_rfl) rfl rfl (by decide)) (s_val (v_ldI (by kernel_rfl) rfl .here rfl) (s_val (v_asI rfl) (s_nil (r_list (by kernel_rfl) (s_val (v_mvB rfl) (s_val (v_mvB rfl) (s_pass (g := false) rfl rfl rfl (s_pass (g := false) rfl rfl rfl (s_val (v_pickF (v := .bool _) rfl rfl rfl) (s_val (v_asB rfl) (s_end (n_bnormal (n_then (r_list (by kernel_rfl) (s_val (v_addL (c := 3) rfl rfl (by decide) (by decide)) (s_val (v_mvI rfl) ?_)))))))))))))))))))
   refine s_end (n_thenR (r_succ (r_seq (by kernel_rfl) (s_val (v_lsI rfl rfl) (s_nil (c_seq (c_condTh rfl rfl rfl (c_skip (n_then (c_seq (c_block (r_seq (by kernel_rfl) (s_val (v_idxS (size := 1) (k := .i64) (by kernel_rfl) rfl rfl (by decide)) (s_val (v_ldI (by kernel_rfl) rfl .here rfl) (s_val (v_asI rfl) (s_nil (r_list (by kernel_rfl) (s_val (v_mvB rfl) (s_val (v_mvB rfl) ?_)))))))))))))))))))
   refine s_pass (g := false) rfl rfl rfl (s_pass (g := false) rfl rfl rfl (s_val (v_pickF (v := .bool _) rfl rfl rfl) (s_val (v_asB rfl) (s_end (n_bnormal (n_then (r_list (by kernel_rfl) (s_val (v_addL (c := 4) rfl rfl (by decide) (by decide)) (s_val (v_mvI rfl) (s_end (n_thenR (r_succ (r_seq (by kernel_rfl) (s_val (v_lsI rfl rfl) (s_nil (c_seq (c_condTh rfl rfl rfl (c_skip (n_then ?_)))))))))))))))))))
   refine c_seq (c_block (r_seq (by kernel_rfl) (s_val (v_idxS (size := 1) (k := .i64) (by kernel_rfl) rfl rfl (by decide)) (s_val (v_ldI (by kernel_rfl) rfl .here rfl) (s_val (v_asI rfl) (s_nil (r_list (by kernel_rfl) (s_val (v_mvB rfl) (s_val (v_mvB rfl) (s_pass (g := false) rfl rfl rfl (s_pass (g := false) rfl rfl rfl (s_val (v_pickF (v := .bool _) rfl rfl rfl) (s_val (v_asB rfl) (s_end (n_bnormal (n_then (r_list (by kernel_rfl) (s_val (v_addL (c := 5) rfl rfl (by decide) (by decide)) (s_val (v_mvI rfl) ?_)))))))))))))))))))
   refine s_end (n_thenR (r_succ (r_seq (by kernel_rfl) (s_val (v_lsI rfl rfl) (s_nil (c_seq (c_condFh rfl rfl rfl (c_exit (n_exit (n_exit (n_bhere (n_then (r_seq (by kernel_rfl) (s_val (v_mvB rfl) (s_val (v_asB rfl) (s_nil (c_ret (n_dnB rfl (by decide) rfl ?_))))))))))))))))))
   simp only [noted, show ∀ n : Int, notedI n = withinB n (-1073741824) 1073741824 from fun _ => rfl, *, bls, cond_true, cond_false, if_true, if_false, Bool.false_eq_true, decide_true, decide_false]
 refine s_want rfl rfl h23 (s_val (v_mvI rfl) (s_want rfl rfl h23 (s_call (by kernel_rfl) (fun w hw => gr_within _ _ _ w) (s_val (v_pickT (v := .bool _) rfl h23 rfl) (s_val (v_asB rfl) (s_end (n_bnormal (n_then (r_list (by kernel_rfl) (s_val (v_addL (c := 2) rfl rfl (by decide) (by decide)) (s_val (v_mvI rfl) (s_end (n_thenR (r_succ (r_seq (by kernel_rfl) (s_val (v_lsI rfl rfl) (s_nil (c_seq (c_condTh rfl rfl rfl ?_)))))))))))))))))))
 refine c_skip (n_then (c_seq (c_block (r_seq (by kernel_rfl) (s_val (v_idxS (size := 1) (k := .i64) (by kernel_rfl) rfl rfl (by decide)) (s_val (v_ldI (by kernel_rfl) rfl .here rfl) (s_val (v_asI rfl) (s_nil (r_list (by kernel_rfl) (s_val (v_mvB rfl) (s_val (v_mvB rfl) (s_splitR (s := 23) rfl (fun h23 => ?_) (fun h23 => ?_)))))))))))))
 · refine s_pass rfl rfl h23 (s_pass rfl rfl h23 (s_val (v_pickF (v := .bool _) rfl h23 rfl) (s_val (v_asB rfl) (s_end (n_bnormal (n_then (r_list (by kernel_rfl) (s_val (v_addL (c := 3) rfl rfl (by decide) (by decide)) (s_val (v_mvI rfl) (s_end (n_thenR (r_succ (r_seq (by kernel_rfl) (s_val (v_lsI rfl rfl) (s_nil (c_seq (c_condTh rfl rfl rfl (c_skip (n_then ?_)))))))))))))))))))
   refine c_seq (c_block (r_seq (by kernel_rfl) (s_val (v_idxS (size := 1) (k := .i64) (by kernel_rfl) rfl rfl (by decide)) (s_val (v_ldI (by kernel_rfl) rfl .here rfl) (s_val (v_asI rfl) (s_nil (r_list (by kernel_rfl) (s_val (v_mvB rfl) (s_val (v_mvB rfl) (s_pass (g := false) rfl rfl rfl (s_pass (g := false) rfl rfl rfl (s_val (v_pickF (v := .bool _) rfl rfl rfl) (s_val (v_asB rfl) (s_end (n_bnormal (n_then (r_list (by kernel_rfl) (s_val (v_addL (c := 4) rfl rfl (by decide) (by decide)) (s_val (v_mvI rfl) ?_)))))))))))))))))))
   refine s_end (n_thenR (r_succ (r_seq (by kernel_rfl) (s_val (v_lsI rfl rfl) (s_nil (c_seq (c_condTh rfl rfl rfl (c_skip (n_then (c_seq (c_block (r_seq (by kernel_rfl) (s_val (v_idxS (size := 1) (k := .i64) (by kernel_rfl) rfl rfl (by decide)) (s_val (v_ldI (by kernel_rfl) rfl .here rfl) (s_val (v_asI rfl) (s_nil (r_list (by kernel_rfl) (s_val (v_mvB rfl) (s_val (v_mvB rfl) ?_)))))))))))))))))))
   refine s_pass (g := false) rfl rfl rfl (s_pass (g := false) rfl rfl rfl (s_val (v_pickF (v := .bool _) rfl rfl rfl) (s_val (v_asB rfl) (s_end (n_bnormal (n_then (r_list (by kernel_rfl) (s_val (v_addL (c := 5) rfl rfl (by decide) (by decide)) (s_val (v_mvI rfl) (s_end (n_thenR (r_succ (r_seq (by kernel_rfl) (s_val (v_lsI rfl rfl) (s_nil (c_seq (c_condFh rfl rfl rfl (c_exit (n_exit ?_)))))))))))))))))))
   refine n_exit (n_bhere (n_then (r_seq (by kernel_rfl) (s_val (v_mvB rfl) (s_val (v_asB rfl) (s_nil (c_ret (n_dnB rfl (by decide) rfl ?_))))))))
   simp only [noted, show ∀ n : Int, notedI n = withinB n (-1073741824) 1073741824 from fun _ => rfl, *, bls, cond_true, cond_false, if_true, if_false, Bool.false_eq_true, decide_true, decide_false]
 refine s_want rfl rfl h23 (s_val (v_mvI rfl) (s_want rfl rfl h23 (s_call (by kernel_rfl) (fun w hw => gr_within _ _ _ w) (s_val (v_pickT (v := .bool _) rfl h23 rfl) (s_val (v_asB rfl) (s_end (n_bnormal (n_then (r_list (by kernel_rfl) (s_val (v_addL (c := 3) rfl rfl (by decide) (by decide)) (s_val (v_mvI rfl) (s_end (n_thenR (r_succ (r_seq (by kernel_rfl) (s_val (v_lsI rfl rfl) (s_nil (c_seq (c_condTh rfl rfl rfl ?_)))))))))))))))))))
 refine c_skip (n_then (c_seq (c_block (r_seq (by kernel_rfl) (s_val (v_idxS (size := 1) (k := .i64) (by kernel_rfl) rfl rfl (by decide)) (s_val (v_ldI (by kernel_rfl) rfl .here rfl) (s_val (v_asI rfl) (s_nil (r_list (by kernel_rfl) (s_val (v_mvB rfl) (s_val (v_mvB rfl) (s_splitR (s := 23) rfl (fun h23 => ?_) (fun h23 => ?_)))))))))))))
 · refine s_pass rfl rfl h23 (s_pass rfl rfl h23 (s_val (v_pickF (v := .bool _) rfl h23 rfl) (s_val (v_asB rfl) (s_end (n_bnormal (n_then (r_list (by kernel_rfl) (s_val (v_addL (c := 4) rfl rfl (by decide) (by decide)) (s_val (v_mvI rfl) (s_end (n_thenR (r_succ (r_seq (by kernel_rfl) (s_val (v_lsI rfl rfl) (s_nil (c_seq (c_condTh rfl rfl rfl (c_skip (n_then ?_)))))))))))))))))))
   refine c_seq (c_block (r_seq (by kernel_rfl) (s_val (v_idxS (size := 1) (k := .i64) (by kernel_rfl) rfl rfl (by decide)) (s_val (v_ldI (by kernel_rfl) rfl .here rfl) (s_val (v_asI rfl) (s_nil (r_list (by kernel_rfl) (s_val (v_mvB rfl) (s_val (v_mvB rfl) (s_pass (g := false) rfl rfl rfl (s_pass (g := false) rfl rfl rfl (s_val (v_pickF (v := .bool _) rfl rfl rfl) (s_val (v_asB rfl) (s_end (n_bnormal (n_then (r_list (by kernel_rfl) (s_val (v_addL (c := 5) rfl rfl (by decide) (by decide)) (s_val (v_mvI rfl) ?_)))))))))))))))))))
   refine s_end (n_thenR (r_succ (r_seq (by kernel_rfl) (s_val (v_lsI rfl rfl) (s_nil (c_seq (c_condFh rfl rfl rfl (c_exit (n_exit (n_exit (n_bhere (n_then (r_seq (by kernel_rfl) (s_val (v_mvB rfl) (s_val (v_asB rfl) (s_nil (c_ret (n_dnB rfl (by decide) rfl ?_))))))))))))))))))
   simp only [noted, show ∀ n : Int, notedI n = withinB n (-1073741824) 1073741824 from fun _ => rfl, *, bls, cond_true, cond_false, if_true, if_false, Bool.false_eq_true, decide_true, decide_false]
 refine s_want rfl rfl h23 (s_val (v_mvI rfl) (s_want rfl rfl h23 (s_call (by kernel_rfl) (fun w hw => gr_within _ _ _ w) (s_val (v_pickT (v := .bool _) rfl h23 rfl) (s_val (v_asB rfl) (s_end (n_bnormal (n_then (r_list (by kernel_rfl) (s_val (v_addL (c := 4) rfl rfl (by decide) (by decide)) (s_val (v_mvI rfl) (s_end (n_thenR (r_succ (r_seq (by kernel_rfl) (s_val (v_lsI rfl rfl) (s_nil (c_seq (c_condTh rfl rfl rfl ?_)))))))))))))))))))
 refine c_skip (n_then (c_seq (c_block (r_seq (by kernel_rfl) (s_val (v_idxS (size := 1) (k := .i64) (by kernel_rfl) rfl rfl (by decide)) (s_val (v_ldI (by kernel_rfl) rfl .here rfl) (s_val (v_asI rfl) (s_nil (r_list (by kernel_rfl) (s_val (v_mvB rfl) (s_val (v_mvB rfl) (s_splitR (s := 23) rfl (fun h23 => ?_) (fun h23 => ?_)))))))))))))
 · refine s_pass rfl rfl h23 (s_pass rfl rfl h23 (s_val (v_pickF (v := .bool _) rfl h23 rfl) (s_val (v_asB rfl) (s_end (n_bnormal (n_then (r_list (by kernel_rfl) (s_val (v_addL (c := 5) rfl rfl (by decide) (by decide)) (s_val (v_mvI rfl) (s_end (n_thenR (r_succ (r_seq (by kernel_rfl) (s_val (v_lsI rfl rfl) (s_nil (c_seq (c_condFh rfl rfl rfl (c_exit (n_exit ?_)))))))))))))))))))
   refine n_exit (n_bhere (n_then (r_seq (by kernel_rfl) (s_val (v_mvB rfl) (s_val (v_asB rfl) (s_nil (c_ret (n_dnB rfl (by decide) rfl ?_))))))))
   simp only [noted, show ∀ n : Int, notedI n = withinB n (-1073741824) 1073741824 from fun _ => rfl, *, bls, cond_true, cond_false, if_true, if_false, Bool.false_eq_true, decide_true, decide_false]
 refine s_want rfl rfl h23 (s_val (v_mvI rfl) (s_want rfl rfl h23 (s_call (by kernel_rfl) (fun w hw => gr_within _ _ _ w) (s_val (v_pickT (v := .bool _) rfl h23 rfl) (s_val (v_asB rfl) (s_end (n_bnormal (n_then (r_list (by kernel_rfl) (s_val (v_addL (c := 5) rfl rfl (by decide) (by decide)) (s_val (v_mvI rfl) (s_end (n_thenR (r_succ (r_seq (by kernel_rfl) (s_val (v_lsI rfl rfl) (s_nil (c_seq (c_condFh rfl rfl rfl ?_)))))))))))))))))))
 refine c_exit (n_exit (n_exit (n_bhere (n_then (r_seq (by kernel_rfl) (s_val (v_mvB rfl) (s_val (v_asB rfl) (s_nil (c_ret (n_dnB rfl (by decide) rfl ?_))))))))))
 simp only [noted, show ∀ n : Int, notedI n = withinB n (-1073741824) 1073741824 from fun _ => rfl, *, bls, cond_true, cond_false, if_true, if_false, Bool.false_eq_true, decide_true, decide_false]
theorem gr_sums (l : List Nat) (w : World) (hb : Byt l) (hl : l.length ≤ 1000) : Gives Tryz.prog 40 [S l] w (S [(sumOf l).1 % 251, (sumOf l).2 % 251]) := by
 refine gives_of Tryz.func40 rfl Tryz.ntmps40 (by simp) (r_seq (by kernel_rfl) (s_val (v_assign (v := S []) rfl) (s_nil (r_seq (by kernel_rfl) (s_val (v_asI rfl) (s_val (v_asI rfl) (s_nil (c_seq (r_seq (by kernel_rfl) (s_val (v_move (v := S _) rfl) (s_bytesOf (by kernel_rfl) (by kernel_rfl) rfl hb (fun b8 c8 cs8 e8 fr8 hc8 hcs8 => ?_))))))))))))
 refine s_val (v_lenS (T := 77) (m := 1) (by kernel_rfl) rfl rfl) (s_val (v_mvI rfl) (s_nil (c_block (c_loop (σ := Nat) (fun (k : Nat) f => ∃ g, (k ≤ l.length) ∧ f = (upd (upd (upd (upd (upd g 3 (I (sumOf (l.take k)).1)) 4 (I (sumOf (l.take k)).2)) 8 (.slice (some ⟨b8, 0, none⟩) l.length c8)) 9 (I l.length)) 10 (I k))) (fun (k : Nat) => Has w (At w) [(b8, .cells cs8 e8 fr8)]) (fun (k : Nat) => l.length - k) 0 ⟨_, Nat.zero_le _, live5 rfl rfl rfl rfl rfl⟩ (fun w hw => hw) ?_))))
 rintro k _ ⟨g, hkl0, rfl⟩
 refine r_seq (by kernel_rfl) (s_val (v_lsI rfl rfl) (s_nil (c_seq (c_condR rfl rfl (fun h11 => ?_) (fun h11 => ?_)))))
 · have hkl : k = l.length := by have := of_decide_eq_false h11; omega
   subst hkl
   rw [List.take_of_length_le (Nat.le_refl _)]
   refine c_exit (n_exit (n_exit (n_bhere (n_then (r_seq (by kernel_rfl) (s_val (v_mvI rfl) (s_val (v_rem (c := (((sumOf l).1 % 251 : Nat) : Int)) rfl rfl (by decide) (tmod_nat _ 251)) (s_val (v_toU8 (by kernel_rfl) rfl ⟨by omega, by omega⟩) (s_val (v_mvI rfl) (s_val (v_rem (c := (((sumOf l).2 % 251 : Nat) : Int)) rfl rfl (by decide) (tmod_nat _ 251)) (s_val (v_toU8 (by kernel_rfl) rfl ⟨by omega, by omega⟩) (s_buildS (e := 5) (vs := [(0, .int .u8 _), (1, .int .u8 _)]) (cs := #[U8 (((sumOf l).1 % 251 : Nat) : Int), U8 (((sumOf l).2 % 251 : Nat) : Int)]) rfl (by kernel_rfl) (fun b28 => ?_)))))))))))))
   refine s_val (v_strOf (l := [(sumOf l).1 % 251, (sumOf l).2 % 251]) (by kernel_rfl) (by kernel_rfl) rfl rfl .here (byt_two (by omega) (by omega)) (cells_two _ _)) (s_val (v_assign (v := S _) rfl) (s_nil (c_ret ?_)))
   exact n_done rfl (by decide) rfl
 have hk0 := of_decide_eq_true h11
 obtain ⟨m, hm⟩ : ∃ m, l[k]? = some m := ⟨l[k]'(by omega), List.getElem?_eq_getElem (by omega)⟩
 have hm256 := hb m (List.mem_of_getElem? hm)
 have hsb := sum_bound hb k
 have hkk : k * (1 + 255 * k) ≤ 1000 * (1 + 255 * 1000) := Nat.mul_le_mul (by omega) (by omega)
 have hss := sum_step hm
 refine c_skip (n_then (c_seq (c_block (r_seq (by kernel_rfl) (s_val (v_idxS (size := 1) (k := .i64) (by kernel_rfl) rfl rfl ⟨by omega, by omega⟩) (s_val (v_load1 (v := U8 m) (by kernel_rfl) rfl .here (by simpa using hcs8 k m hm)) (s_val (v_assign (v := .int .u8 _) rfl) (s_nil (r_seq (by kernel_rfl) (s_val (v_mvI rfl) (s_val (v_move (v := .int .u8 _) rfl) (s_val (v_ofU8 (by kernel_rfl) rfl ⟨by omega, by omega⟩) (s_val (v_add rfl rfl (by omega)) (s_val (v_asI rfl) (s_nil (r_list (by kernel_rfl) (s_val (v_mvI rfl) (s_val (v_mvI rfl) (s_val (v_add rfl rfl (by omega)) ?_)))))))))))))))))))
 refine s_val (v_asI rfl) (s_end (n_bnormal (n_then (r_list (by kernel_rfl) (s_val (v_add rfl rfl (by omega)) (s_val (v_mvI rfl) (s_end (n_round (k + 1) ⟨_, (by omega), live5 (congrArg I (by rw [hss]; rfl)) (congrArg I (by rw [hss]; push_cast; rfl)) rfl rfl rfl⟩ (fun _ hw => hw) (by omega)))))))))
theorem gr_numberText (n : Int) (w : World) (hn : notedI n = true) : Gives Tryz.prog 39 [I n] w (S (digs (zig n))) := by
 have hn2 := notedI_iff.1 hn
 have hz5 := zig_lt hn
 refine gives_of Tryz.func39 rfl Tryz.ntmps39 (by simp) (r_seq (by kernel_rfl) (s_val (v_assign (v := S []) rfl) (s_nil (r_seq (by kernel_rfl) (s_val (v_mvI rfl) (s_val (v_mul rfl rfl (by omega)) (s_val (v_asI rfl) (s_nil (c_seq (r_seq (by kernel_rfl) (s_val (v_mvI rfl) (s_val (v_lsI rfl rfl) (s_nil (c_condR rfl rfl (fun h8 => ?_) (fun h8 => ?_)))))))))))))))
 · rw [zig_pos (of_decide_eq_false h8)]
   refine c_skip (n_then (c_seq (r_seq (by kernel_rfl) (s_val (v_mvI rfl) (s_val (v_lsI rfl rfl) (s_nil (c_cond rfl rfl (fun h13 => ?_) (fun h13 => ?_))))))))
   · have hlo := of_decide_eq_true h13
     refine r_seq (by kernel_rfl) (s_val (v_mvI rfl) (s_val (v_toU8 (by kernel_rfl) rfl ⟨by omega, by omega⟩) (s_build1 (v := .int .u8 _) (e := 5) (m := 1) (by_ := 1) (by kernel_rfl) rfl rfl rfl (fill_scalar rfl) (fun b16 => ?_))))
     refine s_val (v_strOf (l := [zig n]) (by kernel_rfl) (by kernel_rfl) rfl rfl .here (byt_one (by omega)) (cells_one _)) (s_val (v_assign (v := S _) rfl) (s_nil (c_ret (n_ret ?_))))
     exact n_done rfl (by decide) (congrArg S (digs_lo (by omega)).symm)
   have hhi := of_decide_eq_false h13
   refine c_skip (n_then (r_seq (by kernel_rfl) (s_val (v_assign (v := S []) rfl) (s_nil (c_seq (c_block (c_loop (σ := Nat × List Nat) (fun ((u, s) : Nat × List Nat) f => ∃ g, (digs (zig n) = s ++ digs u ∧ u < 128 ^ 5 ∧ s.length + (digs u).length ≤ 5) ∧ f = (upd (upd g 3 (I (u : Int))) 4 (S s))) (fun ((u, s) : Nat × List Nat) => Has w (At w) []) (fun ((u, s) : Nat × List Nat) => u) (zig n, []) ⟨_, ⟨rfl, hz5, by simpa using digs_len5 hn⟩, live2 rfl rfl⟩ (fun w hw => hw) ?_)))))))
   rintro ⟨u, s⟩ _ ⟨g, ⟨hdg, hu5, hsl⟩, rfl⟩
   refine c_seq (r_seq (by kernel_rfl) (s_val (v_mvI rfl) (s_val (v_geq (k := .i64) rfl rfl) (s_nil (c_condR rfl rfl (fun h19 => ?_) (fun h19 => ?_))))))
   · have hu := of_decide_eq_false h19
     refine c_exit (n_exit (n_exit (n_bhere (n_then (r_seq (by kernel_rfl) (s_val (v_move (v := S _) rfl) (s_val (v_mvI rfl) (s_val (v_toU8 (by kernel_rfl) rfl ⟨by omega, by omega⟩) (s_build1 (v := .int .u8 _) (e := 5) (m := 1) (by_ := 1) (by kernel_rfl) rfl rfl rfl (fill_scalar rfl) (fun b33 => ?_))))))))))
     refine s_val (v_strOf (l := [u]) (by kernel_rfl) (by kernel_rfl) rfl rfl .here (byt_one (by omega)) (cells_one _)) (s_val (v_strAdd rfl rfl (by simp only [List.length_cons, List.length_nil]; omega)) (s_val (v_assign (v := S _) rfl) (s_nil (c_ret ?_))))
     exact n_done rfl (by decide) (congrArg S (by rw [hdg, digs_lo (by omega)]))
   have hu := of_decide_eq_true h19
   refine c_skip (n_then (c_block (r_seq (by kernel_rfl) (s_val (v_move (v := S _) rfl) (s_val (v_mvI rfl) (s_val (v_rem (c := ((u % 128 : Nat) : Int)) rfl rfl (by decide) (tmod_nat _ 128)) (s_val (v_add rfl rfl (by omega)) (s_val (v_toU8 (by kernel_rfl) rfl ⟨by omega, by omega⟩) (s_build1 (v := .int .u8 _) (e := 5) (m := 1) (by_ := 1) (by kernel_rfl) rfl rfl rfl (fill_scalar rfl) (fun b25 => ?_))))))))))
   refine s_val (v_strOf (l := [128 + u % 128]) (by kernel_rfl) (by kernel_rfl) rfl rfl .here (byt_one (by omega)) (cells_one _)) (s_val (v_strAdd rfl rfl (by simp only [List.length_cons, List.length_nil]; omega)) (s_val (v_assign (v := S _) rfl) (s_nil (r_list (by kernel_rfl) (s_val (v_mvI rfl) (s_val (v_quo (c := ((u / 128 : Nat) : Int)) rfl rfl (by decide) (by rw [show ((u : Nat) : Int).tdiv 128 = ((u / 128 : Nat) : Int) from tdiv_nat u 128]; exact wr_in (by omega) (by omega))) (s_val (v_asI rfl) (s_end (n_bnormal (n_round (s := (u, s)) (u / 128, s ++ [128 + u % 128]) ⟨_, ⟨by rw [hdg, digs_hi (by omega)]; simp, by omega, by rw [digs_hi (by omega)] at hsl; simp only [List.length_append, List.length_cons, List.length_nil] at hsl ⊢; omega⟩, live2 rfl rfl⟩ (fun _ hw => hw.tail) (by simp only; omega)))))))))))
 have hneg := of_decide_eq_true h8
 refine r_list (by kernel_rfl) (s_val (v_mvI rfl) (s_val (v_mul rfl rfl (by omega)) (s_val (v_sub rfl rfl (by omega)) (s_val (v_asI rfl) (s_end ?_)))))
 rw [zig_neg hneg]
 refine n_then (c_seq (r_seq (by kernel_rfl) (s_val (v_mvI rfl) (s_val (v_lsI rfl rfl) (s_nil (c_cond rfl rfl (fun h13 => ?_) (fun h13 => ?_)))))))
 · have hlo := of_decide_eq_true h13
   refine r_seq (by kernel_rfl) (s_val (v_mvI rfl) (s_val (v_toU8 (by kernel_rfl) rfl ⟨by omega, by omega⟩) (s_build1 (v := .int .u8 _) (e := 5) (m := 1) (by_ := 1) (by kernel_rfl) rfl rfl rfl (fill_scalar rfl) (fun b16 => ?_))))
   refine s_val (v_strOf (l := [zig n]) (by kernel_rfl) (by kernel_rfl) rfl rfl .here (byt_one (by omega)) (cells_one _)) (s_val (v_assign (v := S _) rfl) (s_nil (c_ret (n_ret ?_))))
   exact n_done rfl (by decide) (congrArg S (digs_lo (by omega)).symm)
 have hhi := of_decide_eq_false h13
 refine c_skip (n_then (r_seq (by kernel_rfl) (s_val (v_assign (v := S []) rfl) (s_nil (c_seq (c_block (c_loop (σ := Nat × List Nat) (fun ((u, s) : Nat × List Nat) f => ∃ g, (digs (zig n) = s ++ digs u ∧ u < 128 ^ 5 ∧ s.length + (digs u).length ≤ 5) ∧ f = (upd (upd g 3 (I (u : Int))) 4 (S s))) (fun ((u, s) : Nat × List Nat) => Has w (At w) []) (fun ((u, s) : Nat × List Nat) => u) (zig n, []) ⟨_, ⟨rfl, hz5, by simpa using digs_len5 hn⟩, live2 rfl rfl⟩ (fun w hw => hw) ?_)))))))
 rintro ⟨u, s⟩ _ ⟨g, ⟨hdg, hu5, hsl⟩, rfl⟩
 refine c_seq (r_seq (by kernel_rfl) (s_val (v_mvI rfl) (s_val (v_geq (k := .i64) rfl rfl) (s_nil (c_condR rfl rfl (fun h19 => ?_) (fun h19 => ?_))))))
 · have hu := of_decide_eq_false h19
   refine c_exit (n_exit (n_exit (n_bhere (n_then (r_seq (by kernel_rfl) (s_val (v_move (v := S _) rfl) (s_val (v_mvI rfl) (s_val (v_toU8 (by kernel_rfl) rfl ⟨by omega, by omega⟩) (s_build1 (v := .int .u8 _) (e := 5) (m := 1) (by_ := 1) (by kernel_rfl) rfl rfl rfl (fill_scalar rfl) (fun b33 => ?_))))))))))
   refine s_val (v_strOf (l := [u]) (by kernel_rfl) (by kernel_rfl) rfl rfl .here (byt_one (by omega)) (cells_one _)) (s_val (v_strAdd rfl rfl (by simp only [List.length_cons, List.length_nil]; omega)) (s_val (v_assign (v := S _) rfl) (s_nil (c_ret ?_))))
   exact n_done rfl (by decide) (congrArg S (by rw [hdg, digs_lo (by omega)]))
 have hu := of_decide_eq_true h19
 refine c_skip (n_then (c_block (r_seq (by kernel_rfl) (s_val (v_move (v := S _) rfl) (s_val (v_mvI rfl) (s_val (v_rem (c := ((u % 128 : Nat) : Int)) rfl rfl (by decide) (tmod_nat _ 128)) (s_val (v_add rfl rfl (by omega)) (s_val (v_toU8 (by kernel_rfl) rfl ⟨by omega, by omega⟩) (s_build1 (v := .int .u8 _) (e := 5) (m := 1) (by_ := 1) (by kernel_rfl) rfl rfl rfl (fill_scalar rfl) (fun b25 => ?_))))))))))
 refine s_val (v_strOf (l := [128 + u % 128]) (by kernel_rfl) (by kernel_rfl) rfl rfl .here (byt_one (by omega)) (cells_one _)) (s_val (v_strAdd rfl rfl (by simp only [List.length_cons, List.length_nil]; omega)) (s_val (v_assign (v := S _) rfl) (s_nil (r_list (by kernel_rfl) (s_val (v_mvI rfl) (s_val (v_quo (c := ((u / 128 : Nat) : Int)) rfl rfl (by decide) (by rw [show ((u : Nat) : Int).tdiv 128 = ((u / 128 : Nat) : Int) from tdiv_nat u 128]; exact wr_in (by omega) (by omega))) (s_val (v_asI rfl) (s_end (n_bnormal (n_round (s := (u, s)) (u / 128, s ++ [128 + u % 128]) ⟨_, ⟨by rw [hdg, digs_hi (by omega)]; simp, by omega, by rw [digs_hi (by omega)] at hsl; simp only [List.length_append, List.length_cons, List.length_nil] at hsl ⊢; omega⟩, live2 rfl rfl⟩ (fun _ hw => hw.tail) (by simp only; omega)))))))))))
end Go.Proofs.YtmkboljfbmlebacGreat
namespace Go.Proofs.YtmkboljfbmlebacGreat
open Go.RowKit
set_option linter.unusedSimpArgs false
set_option linter.unusedVariables false
set_option maxRecDepth 100000
attribute [local irreducible] cC sC nC rC qw
theorem gr_FrameOf (a : ActS) (w : World) : Gives Tryz.prog 26 [.agg a.cells] w (frameR a) := by
 refine gives_of Tryz.func26 rfl Tryz.ntmps26 (by simp) (r_seq (by kernel_rfl) (s_box (v := .agg _) rfl (fun b1 => ?_)))
 refine s_val (v_assign (v := S []) rfl) (s_val (v_asI rfl) (s_nil (c_seq (r_seq (by kernel_rfl) (s_val (v_loadA (m := 5) (by kernel_rfl) rfl .here rfl) (s_call (by kernel_rfl) (fun w hw => gr_IsNoted a w) (s_val (v_not rfl) (s_nil (c_condN rfl rfl (fun h7 => ?_) (fun h7 => ?_))))))))))
 · refine r_seq (by kernel_rfl) (s_val (v_assign (v := S []) rfl) (s_val (v_asI rfl) (s_nil (c_ret (n_ret ?_)))))
   exact n_doneT rfl (by decide) (by decide) (by rw [frameR_no h7]; rfl)
 obtain ⟨n1, n2, n3, n4, n5⟩ := noted_all h7
 have l1 := digs_len5 n1
 have l2 := digs_len5 n2
 have l3 := digs_len5 n3
 have l4 := digs_len5 n4
 have l5 := digs_len5 n5
 have hbl := body_len h7
 refine c_skip (n_then (d_seq (by kernel_rfl) (by kernel_rfl) (fun w hw => hw.drew) (by kernel_rfl) (q_val (v_fd 0 (by kernel_rfl) rfl) (q_val (v_ldI (by kernel_rfl) rfl .here rfl) (q_call (by kernel_rfl) (fun w hw => gr_numberText _ w n1) (q_val (v_fd 1 (by kernel_rfl) rfl) (q_val (v_ldI (by kernel_rfl) rfl .here rfl) (q_call (by kernel_rfl) (fun w hw => gr_numberText _ w n2) (q_val (v_strAdd rfl rfl (by omega)) (q_val (v_fd 2 (by kernel_rfl) rfl) (q_val (v_ldI (by kernel_rfl) rfl .here rfl) (q_call (by kernel_rfl) (fun w hw => gr_numberText _ w n3) (q_val (v_strAdd rfl rfl (by rw [List.length_append]; omega)) (q_val (v_fd 3 (by kernel_rfl) rfl) (q_val (v_ldI (by kernel_rfl) rfl .here rfl) (q_call (by kernel_rfl) (fun w hw => gr_numberText _ w n4) (q_val (v_strAdd rfl rfl (by simp only [List.length_append]; omega)) (q_val (v_fd 4 (by kernel_rfl) rfl) (q_val (v_ldI (by kernel_rfl) rfl .here rfl) ?_)))))))))))))))))))
 refine q_call (by kernel_rfl) (fun w hw => gr_numberText _ w n5) (q_val (v_strAdd rfl rfl (by simp only [List.length_append]; omega)) (q_val (v_assign (v := S _) rfl) (q_nil (f_seq (T := (row 27 (Eqv (S (bodyOf a))) (row 28 (Eqv (I (bodyOf a).length)) (row 29 (Eqv (U8 ((bodyOf a).length : Nat))) (row 30 ((Byte1 ((bodyOf a).length))) (row 31 (Eqv (S [(bodyOf a).length])) (row 32 (Eqv (S (bodyOf a))) (row 33 (Eqv (S ([(bodyOf a).length] ++ bodyOf a))) (row 34 (Eqv (S (bodyOf a))) (row 35 (Eqv (S [(sumOf (bodyOf a)).1 % 251, (sumOf (bodyOf a)).2 % 251])) (row 36 (Eqv (S ([(bodyOf a).length] ++ bodyOf a ++ [(sumOf (bodyOf a)).1 % 251, (sumOf (bodyOf a)).2 % 251]))) (row 2 (Eqv (S ([(bodyOf a).length] ++ bodyOf a ++ [(sumOf (bodyOf a)).1 % 251, (sumOf (bodyOf a)).2 % 251]))) (row 3 (Eqv (.int .i64 (0))) (fun _ => Any)))))))))))))) (by kernel_rfl) (by kernel_rfl) (by kernel_rfl) (row_mono (eqv_mono _) (row_mono (eqv_mono _) (row_mono (eqv_mono _) (row_mono (byte1_mono _) (row_mono (eqv_mono _) (row_mono (eqv_mono _) (row_mono (eqv_mono _) (row_mono (eqv_mono _) (row_mono (eqv_mono _) (row_mono (eqv_mono _) (row_mono (eqv_mono _) (row_mono (eqv_mono _) (fun _ => any_mono))))))))))))) ⟨?_, ?_, ?_, ?_, ?_, ?_, ?_, ?_, ?_, ?_, ?_, ?_, trivial⟩ ?_))))
 · refine ob_free (fun g w hw hl => ?_)
   have e4 : g 4 = S (bodyOf a) := (hl 4 (dK (by kernel_rfl))).2 (dK (by kernel_rfl))
   exact x_val (v_move (v := S (bodyOf a)) e4) hw rfl
 · refine ob_free (fun g w hw hl => ?_)
   have e27 : g 27 = S (bodyOf a) := (hl 27 (dK (by kernel_rfl))).1 (dK (by kernel_rfl))
   exact x_val (v_strLen (by kernel_rfl) rfl e27) hw rfl
 · refine ob_free (fun g w hw hl => ?_)
   have e28 : g 28 = I (bodyOf a).length := (hl 28 (dK (by kernel_rfl))).1 (dK (by kernel_rfl))
   exact x_val (v_toU8 (by kernel_rfl) e28 ⟨by omega, by omega⟩) hw rfl
 · refine ob_free (fun g w hw hl => ?_)
   have e29 : g 29 = U8 ((bodyOf a).length : Nat) := (hl 29 (dK (by kernel_rfl))).1 (dK (by kernel_rfl))
   exact x_build1 (e := 5) (by_ := 1) (n := (bodyOf a).length) (by kernel_rfl) e29 (fun _ _ h => h)
 · refine ob_free (fun g w hw hl => ?_)
   obtain ⟨b30, e30, f30⟩ := (show (Byte1 ((bodyOf a).length)) (At w) (g 30) from (hl 30 (dK (by kernel_rfl))).1 (dK (by kernel_rfl)))
   exact x_strOf (n := (bodyOf a).length) (by kernel_rfl) (by kernel_rfl) (by omega) e30 f30 rfl
 · refine ob_free (fun g w hw hl => ?_)
   have e4 : g 4 = S (bodyOf a) := (hl 4 (dK (by kernel_rfl))).2 (dK (by kernel_rfl))
   exact x_val (v_move (v := S (bodyOf a)) e4) hw rfl
 · refine ob_free (fun g w hw hl => ?_)
   have e31 : g 31 = S [(bodyOf a).length] := (hl 31 (dK (by kernel_rfl))).1 (dK (by kernel_rfl))
   have e32 : g 32 = S (bodyOf a) := (hl 32 (dK (by kernel_rfl))).1 (dK (by kernel_rfl))
   exact x_val (v_strAdd e31 e32 (by simp only [List.length_append, List.length_cons, List.length_nil]; omega)) hw rfl
 · refine ob_free (fun g w hw hl => ?_)
   have e4 : g 4 = S (bodyOf a) := (hl 4 (dK (by kernel_rfl))).2 (dK (by kernel_rfl))
   exact x_val (v_move (v := S (bodyOf a)) e4) hw rfl
 · refine ob_free (fun g w hw hl => ?_)
   have e34 : g 34 = S (bodyOf a) := (hl 34 (dK (by kernel_rfl))).1 (dK (by kernel_rfl))
   exact x_call (v := S [(sumOf (bodyOf a)).1 % 251, (sumOf (bodyOf a)).2 % 251]) (vs := [S (bodyOf a)]) (by kernel_rfl) (by show [g 34] = _; rw [e34]) (gr_sums (bodyOf a) w (fun b hb => body_byte a b hb) (by omega)) (fun _ => rfl)
 · refine ob_free (fun g w hw hl => ?_)
   have e33 : g 33 = S ([(bodyOf a).length] ++ bodyOf a) := (hl 33 (dK (by kernel_rfl))).1 (dK (by kernel_rfl))
   have e35 : g 35 = S [(sumOf (bodyOf a)).1 % 251, (sumOf (bodyOf a)).2 % 251] := (hl 35 (dK (by kernel_rfl))).1 (dK (by kernel_rfl))
   exact x_val (v_strAdd e33 e35 (by simp only [List.length_append, List.length_cons, List.length_nil]; omega)) hw rfl
 · refine ob_free (fun g w hw hl => ?_)
   have e36 : g 36 = S ([(bodyOf a).length] ++ bodyOf a ++ [(sumOf (bodyOf a)).1 % 251, (sumOf (bodyOf a)).2 % 251]) := (hl 36 (dK (by kernel_rfl))).1 (dK (by kernel_rfl))
   exact x_val (v_assign (v := S ([(bodyOf a).length] ++ bodyOf a ++ [(sumOf (bodyOf a)).1 % 251, (sumOf (bodyOf a)).2 % 251])) e36) hw rfl
 · refine ob_free (fun g w hw hl => ?_)
   exact x_val (v_assign (v := .int .i64 (0)) rfl) hw rfl
 intro g w hw hd he
 have e2 : g 2 = S ([(bodyOf a).length] ++ bodyOf a ++ [(sumOf (bodyOf a)).1 % 251, (sumOf (bodyOf a)).2 % 251]) := hd 2 (dK (by kernel_rfl))
 have e3 : g 3 = .int .i64 0 := hd 3 (dK (by kernel_rfl))
 obtain ⟨g1, hg1⟩ : ∃ g1, g = (upd (upd g1 2 (S ([(bodyOf a).length] ++ bodyOf a ++ [(sumOf (bodyOf a)).1 % 251, (sumOf (bodyOf a)).2 % 251]))) 3 (.int .i64 0)) := ⟨g, live2 e2 e3⟩
 rw [hg1]
 refine cC_at ?_ hw
 refine c_ret ?_
 exact n_doneT rfl (by decide) (by decide) (by rw [frameR_yes h7]; rfl)
end Go.Proofs.YtmkboljfbmlebacGreat
namespace Go.Proofs.YtmkboljfbmlebacGreat
open Go.RowKit
set_option linter.unusedSimpArgs false
set_option linter.unusedVariables false
set_option maxRecDepth 100000
attribute [local irreducible] cC sC nC rC qw
set_option maxHeartbeats 4000000 in
theorem gr_ReadBook (l : List Nat) (w : World) (hb : Byt l) (hl : l.length ≤ 8388608) : GivesF Tryz.prog 23 [S l] w (ReadF l) := by
 refine givesF_of Tryz.func23 rfl Tryz.ntmps23 (by simp) (r_seq (by kernel_rfl) (s_val (v_assign (v := .slice _ _ _) rfl) (s_val (v_asI rfl) (s_nil (r_seq (by kernel_rfl) (s_val (v_assign (v := .slice _ _ _) rfl) (s_nil (r_seq (by kernel_rfl) (s_val (v_asI rfl) (s_nil (c_seq (c_block (c_loop (σ := RB) (fun (s : RB) f => ∃ g, (RbOk 34 l s) ∧ f = (upd (upd (upd g 0 (S l)) 4 (s.v)) 5 (I ((bytesOf s.xs).length : Nat)))) (fun (s : RB) => Has w (At w) (s.E ++ [])) (fun (s : RB) => l.length - (bytesOf s.xs).length) ⟨[], .slice none 0 0, []⟩ ⟨_, ⟨listE_nil _ _, Nat.zero_le _, rfl, Nat.le_refl _⟩, live3 rfl rfl rfl⟩ (fun w hw => hw) ?_)))))))))))))
 rintro s _ ⟨g, ho, rfl⟩
 refine c_seq (r_seq (by kernel_rfl) (s_val (v_mvI rfl) (s_val (v_move (v := S _) rfl) (s_val (v_strLen (by kernel_rfl) rfl rfl) (s_val (v_lsI rfl rfl) (s_nil (c_condR rfl rfl (fun h19 => ?_) (fun h19 => ?_))))))))
 · refine c_exit (n_exit (n_exit (n_bhere (n_then (r_seq (by kernel_rfl) (s_val (v_move (v := _) rfl) (s_val (v_mvI rfl) (s_val (v_assign (v := _) rfl) (s_val (v_asI rfl) (s_nil (c_ret (n_doneTF rfl (by decide) (by decide) (fun w hw => ?_)))))))))))))
   exact ho.done (by rw [List.drop_eq_nil_of_le (by have := of_decide_eq_false h19; omega)]; rfl) (own_fresh hw)
 have hpos := of_decide_eq_true h19
 obtain ⟨k0, r, hr⟩ : ∃ k0 r, l.drop (bytesOf s.xs).length = k0 :: r := by
   cases hc : l.drop (bytesOf s.xs).length with
   | nil => have := congrArg List.length hc; rw [List.length_drop] at this; simp only [List.length_nil] at this; omega
   | cons k0 r => exact ⟨k0, r, rfl⟩
 have hfront := ho.front
 have hbr : Byt (k0 :: r) := by rw [← hr]; exact hb.drop _
 have hk256 := hbr k0 (by simp)
 have hrl : (k0 :: r).length ≤ l.length := by rw [← hr, List.length_drop]; omega
 refine c_skip (n_then (c_block (r_seq (by kernel_rfl) (s_val (v_move (v := S _) rfl) (s_val (v_mvI rfl) (s_val (v := S (k0 :: r)) (by rw [← hr]; exact v_strLo (a := l) (i := ((bytesOf s.xs).length : Nat)) (by kernel_rfl) rfl rfl ⟨by omega, by omega⟩) (s_val (v_assign (v := S _) rfl) (s_nil (r_seq (by kernel_rfl) (s_val (v_move (v := S _) rfl) (s_val (v_strIdx (by kernel_rfl) rfl rfl (by decide) rfl hk256) (s_val (v_ofU8 (by kernel_rfl) rfl ⟨by omega, by omega⟩) (s_val (v_add rfl rfl (by omega)) (s_val (v_asI rfl) (s_nil (c_seq (r_seq (by kernel_rfl) (s_val (v_move (v := S _) rfl) (s_val (v_strLen (by kernel_rfl) rfl rfl) ?_)))))))))))))))))))
 refine s_val (v_mvI rfl) (s_val (v_lsI rfl rfl) (s_nil (c_cond rfl rfl (fun h30 => ?_) (fun h30 => ?_))))
 · refine c_exit (n_exit (n_bpast rfl (n_exit (n_bhere (n_then (r_seq (by kernel_rfl) (s_val (v_move (v := _) rfl) (s_val (v_mvI rfl) (s_val (v_assign (v := _) rfl) (s_val (v_asI rfl) (s_nil (c_ret (n_doneTF rfl (by decide) (by decide) (fun w hw => ?_))))))))))))))
   exact ho.done (by rw [hr]; exact read_short (by have := of_decide_eq_true h30; omega)) (own_fresh hw)
 have hsz := of_decide_eq_false h30
 have hrl2 : r.length + 1 = (k0 :: r).length := rfl
 have hBl : (r.take k0).length = k0 := by rw [List.length_take]; omega
 have hBi : ∀ i : Nat, i < k0 → (r.take k0)[i]? = (k0 :: r)[i + 1]? := fun i hi => by rw [List.getElem?_take, if_pos hi]; rfl
 refine c_skip (n_then (r_seq (by kernel_rfl) (s_alloc (z := .agg (vrow [])) (by kernel_rfl) (fun b8 => ?_))))
 refine s_nil (r_seq (by kernel_rfl) (s_val (v_asI rfl) (s_val (v_asI rfl) (s_nil (c_seq (c_block (c_loop (σ := PG) (fun (t : PG) f => ∃ g, (PgOk k0 (r.take k0) t) ∧ f = (upd (upd (upd (upd (upd (upd (upd (upd g 0 (S l)) 4 (s.v)) 5 (I ((bytesOf s.xs).length : Nat))) 6 (S (k0 :: r))) 7 (I ((k0 : Int) + 3))) 8 (.pointer (some ⟨b8, 0, none⟩))) 9 (I (t.pos : Nat))) 10 (I (t.k : Nat)))) (fun (t : PG) => Has w (At w) ((b8, .cells (vrow t.us) 69) :: (s.E ++ []))) (fun (t : PG) => 5 - t.k) ⟨0, [], 1⟩ ⟨_, ⟨by decide, rfl, ⟨by decide, by dsimp only; omega⟩, rfl⟩, live8 rfl rfl rfl rfl rfl rfl rfl rfl⟩ (fun w hw => hw) ?_)))))))
 rintro t _ ⟨g, hpg, rfl⟩
 refine c_seq ?_
 have hk5' := hpg.k5
 have hp1' := hpg.p1
 refine r_seq (by kernel_rfl) (s_val (v_mvI rfl) (s_val (v_lsI rfl rfl) (s_nil (c_condR rfl rfl (fun h32 => ?_) (fun h32 => ?_)))))
 · have hk55 : t.k = 5 := by have := of_decide_eq_false h32; omega
   refine c_exit (n_exit (n_exit (n_bhere (n_then ?_))))
   have hrun5 := hpg.run
   rw [hk55] at hrun5
   have hul5 := hpg.ul.trans hk55
   refine r_seq (by kernel_rfl) (s_val (v_idxA (len := 5) (size := 1) (k := .i64) (by kernel_rfl) rfl rfl (by decide)) (s_val (v_load1 (v := I (vnum t.us 0)) (by kernel_rfl) rfl .here (vrow_at t.us 0 (by decide))) (s_val (v_idxA (len := 5) (size := 1) (k := .i64) (by kernel_rfl) rfl rfl (by decide)) (s_val (v_load1 (v := I (vnum t.us 1)) (by kernel_rfl) rfl .here (vrow_at t.us 1 (by decide))) (s_val (v_idxA (len := 5) (size := 1) (k := .i64) (by kernel_rfl) rfl rfl (by decide)) (s_val (v_load1 (v := I (vnum t.us 2)) (by kernel_rfl) rfl .here (vrow_at t.us 2 (by decide))) (s_val (v_idxA (len := 5) (size := 1) (k := .i64) (by kernel_rfl) rfl rfl (by decide)) (s_val (v_load1 (v := I (vnum t.us 3)) (by kernel_rfl) rfl .here (vrow_at t.us 3 (by decide))) (s_val (v_idxA (len := 5) (size := 1) (k := .i64) (by kernel_rfl) rfl rfl (by decide)) (s_val (v_load1 (v := I (vnum t.us 4)) (by kernel_rfl) rfl .here (vrow_at t.us 4 (by decide))) (s_val (v_build (vs := [(0, .int .i64 _), (1, .int .i64 _), (2, .int .i64 _), (3, .int .i64 _), (4, .int .i64 _)]) (cs := (act5 t.us).cells) rfl (by kernel_rfl)) (s_alloc (z := zeroOf Tryz.prog 34) (by kernel_rfl) (fun b13 => ?_)))))))))))))
   refine s_storeA (m := 5) (by kernel_rfl) rfl rfl .here (by kernel_rfl) rfl (ActS.all1 _) (s_nil (c_seq (r_seq (by kernel_rfl) (s_val (v_loadA (m := 5) (by kernel_rfl) rfl .here rfl) (s_call (by kernel_rfl) (fun w hw => gr_FrameOf (act5 t.us) w) (s_val (v_move (v := .tuple _) rfl) (s_val (v_extract rfl rfl) (s_val (v_extract rfl rfl) (s_val (v_assign (v := S _) rfl) (s_val (v_asI rfl) (s_nil (r_seq (by kernel_rfl) (s_val (v_mvI rfl) (s_val (v_lsI rfl rfl) (s_val (v_mvB rfl) (s_want rfl rfl (decide_eq_false (by omega)) (s_val (v_mvI rfl) (s_want rfl rfl (decide_eq_false (by omega)) (s_val (v_neq (k := .i64) rfl rfl) ?_)))))))))))))))))))
   refine s_val (v_pickF (v := .bool _) rfl (decide_eq_false (by omega)) rfl) (s_val (v_mvB rfl) (s_splitN (s := 117) rfl (fun h117 => ?_) (fun h117 => ?_)))
   · refine s_pass rfl rfl (congrArg not h117) (s_pass rfl rfl (congrArg not h117) (s_pass rfl rfl (congrArg not h117) (s_pass rfl rfl (congrArg not h117) (s_pass rfl rfl (congrArg not h117) (s_val (v_pickT (v := .bool _) rfl (congrArg not h117) rfl) (s_nil (c_condTh rfl rfl rfl (c_exit (n_exit (n_bpast rfl (n_exit (n_bhere (n_then (r_seq (by kernel_rfl) (s_val (v_move (v := _) rfl) (s_val (v_mvI rfl) (s_val (v_assign (v := _) rfl) (s_val (v_asI rfl) (s_nil ?_)))))))))))))))))))
     refine c_ret (n_doneTF rfl (by decide) (by decide) (fun w hw => ?_))
     exact ho.done (by rw [hr]; exact read_other hrun5 (fun h => absurd (by rw [act5_of hul5]; simp [fErr, h.1]) (of_decide_eq_false h117))) (own_fresh (hw.sub (.cons _ (.cons _ (List.Sublist.refl _)))))
   refine s_want rfl rfl (congrArg not h117) (s_val (v_move (v := S _) rfl) (s_want rfl rfl (congrArg not h117) (s_val (v_move (v := S _) rfl) (s_want rfl rfl (congrArg not h117) (s_val (v_mvI rfl) (s_want rfl rfl (congrArg not h117) (s_val (v_strHi (by kernel_rfl) rfl rfl ⟨by omega, by omega⟩) (s_want rfl rfl (congrArg not h117) (s_val (v_strNe rfl rfl (fText_byt _) (hbr.take _)) (s_val (v_pickF (v := .bool _) rfl (congrArg not h117) rfl) (s_nil (c_condN rfl rfl (fun h123 => ?_) (fun h123 => ?_)))))))))))))
   · refine c_exit (n_exit (n_bpast rfl (n_exit (n_bhere (n_then (r_seq (by kernel_rfl) (s_val (v_move (v := _) rfl) (s_val (v_mvI rfl) (s_val (v_assign (v := _) rfl) (s_val (v_asI rfl) (s_nil (c_ret (n_doneTF rfl (by decide) (by decide) (fun w hw => ?_))))))))))))))
     exact ho.done (by rw [hr]; exact read_other hrun5 (fun h => absurd (by rw [act5_of hul5]; simp only [fText, h.1, cond_true]; exact h.2) (of_decide_eq_false h123))) (own_fresh (hw.sub (.cons _ (.cons _ (List.Sublist.refl _)))))
   refine c_skip (n_then ?_)
   refine c_weak (C' := Has w (At w) (s.E ++ [(b13, .cells (act5 t.us).cells 34)])) (fun _ hw => by
     have h1 := hw.sub (L' := (b13, .cells (act5 t.us).cells 34) :: (s.E ++ [])) (.cons_cons _ (.cons _ (List.Sublist.refl _)))
     rw [List.append_nil] at h1
     exact h1.perm (List.perm_append_comm (l₁ := [_]))) ?_
   have hn := fErr_ok (of_decide_eq_true h117)
   have hfe := of_decide_eq_true h123
   rw [act5_of hul5] at hn hfe
   simp only [fText, hn, cond_true] at hfe
   have hf := read_this (k0 := k0) (r := r) (us := t.us) hn hfe
   have hbl := (stands_body ((first_iff _ _).1 hf)).1
   rw [← hr, ← act5_of hul5] at hf
   rw [← act5_of hul5] at hbl
   have height := ho.eight
   refine r_list (by kernel_rfl) (s_val (v_move (v := _) rfl) (s_val (v_loadA (m := 5) (by kernel_rfl) rfl (.app .here) rfl) (s_build1 (v := .agg _) (e := 34) (m := 5) (by_ := 40) (by kernel_rfl) rfl rfl rfl (fill_one rfl) (fun b126 => ?_))))
   refine s_push (e := 34) (m := 5) (by_ := 40) (by kernel_rfl) rfl rfl rfl rfl rfl ho.list rfl (ActS.all1 _) (by omega) (fun v127 E127 hE127 => ?_)
   refine s_val (v_mvI rfl) (s_val (v_mvI rfl) (s_val (v_add rfl rfl (by omega)) (s_val (v_assign (v := _) rfl) (s_val (v_asI rfl) (s_end (n_bnormal (n_round (s := s) ⟨s.xs ++ [act5 t.us], v127, E127⟩ ⟨_, (ho.next hf hE127).1, live3 rfl rfl (congrArg I (by have h1 := (ho.next hf hE127).2; dsimp only; omega))⟩ (fun _ hw => hw.sub (List.Sublist.append (List.Sublist.refl _) (List.nil_sublist _))) (by have h1 := (ho.next hf hE127).2; have h2 := (ho.next hf hE127).1.front; dsimp only at h2 ⊢; omega))))))))
 have hk5 : t.k < 5 := by have := of_decide_eq_true h32; omega
 refine c_skip (n_then (c_seq (c_block (r_seq (by kernel_rfl) (s_val (v_asI rfl) (s_val (v_asI rfl) (s_nil (c_seq (c_block (c_loop (σ := Nat × Nat) (fun (q : Nat × Nat) f => ∃ g, (Dig ((r.take k0).drop (t.pos - 1)) q.1 q.2) ∧ f = (upd (upd (upd (upd (upd (upd (upd (upd (upd (upd g 0 (S l)) 4 (s.v)) 5 (I ((bytesOf s.xs).length : Nat))) 6 (S (k0 :: r))) 7 (I ((k0 : Int) + 3))) 8 (.pointer (some ⟨b8, 0, none⟩))) 9 (I ((t.pos + q.1 : Nat) : Int))) 10 (I (t.k : Nat))) 11 (I (q.2 : Nat))) 12 (I ((128 ^ q.1 : Nat) : Int)))) (fun (q : Nat × Nat) => Has w (At w) ((b8, .cells (vrow t.us) 69) :: (s.E ++ []))) (fun (q : Nat × Nat) => 6 - q.1) (0, 0) ⟨_, dig_start _, live10 rfl rfl rfl rfl rfl rfl rfl rfl rfl rfl⟩ (fun w hw => hw) ?_))))))))))
 rintro q _ ⟨g, hd, rfl⟩
 refine c_seq ?_
 have hdl : q.1 ≤ ((r.take k0).drop (t.pos - 1)).length := hd.jl
 rw [List.length_drop, hBl] at hdl
 have hp1 := hpg.p1
 have hj6 := hd.j6
 have hpw := pow_le42 hd.j6
 have hub := hd.ub
 have hu42 : q.2 < 4398046511104 := by omega
 refine r_seq (by kernel_rfl) (s_val (v_mvI rfl) (s_val (v_mvI rfl) (s_val (v_sub rfl rfl (by omega)) (s_val (v_lsI rfl rfl) (s_val (v_mvB rfl) (s_splitR (s := 39) rfl (fun h39 => ?_) (fun h39 => ?_)))))))
 · refine s_pass rfl rfl h39 (s_pass rfl rfl h39 (s_pass rfl rfl h39 (s_pass rfl rfl h39 (s_val (v_pickF (v := .bool _) rfl h39 rfl) (s_val (v_mvB rfl) (s_pass (g := false) rfl rfl rfl (s_pass (g := false) rfl rfl rfl (s_val (v_pickF (v := .bool _) rfl rfl rfl) (s_nil (c_condFh rfl rfl rfl (c_exit (n_exit (n_exit (n_bhere (n_then (c_seq (r_seq (by kernel_rfl) (s_val (v_mvI rfl) (s_val (v_mvI rfl) ?_)))))))))))))))))))
   refine s_val (v_sub rfl rfl (by omega)) (s_val (v_geq (k := .i64) rfl rfl) (s_val (v_mvB rfl) (s_pass rfl rfl (decide_eq_true (by have := of_decide_eq_false h39; omega)) (s_pass rfl rfl (decide_eq_true (by have := of_decide_eq_false h39; omega)) (s_pass rfl rfl (decide_eq_true (by have := of_decide_eq_false h39; omega)) (s_pass rfl rfl (decide_eq_true (by have := of_decide_eq_false h39; omega)) (s_val (v_pickT (v := .bool _) rfl (decide_eq_true (by have := of_decide_eq_false h39; omega)) rfl) (s_nil (c_condTh rfl rfl rfl (c_exit (n_exit (n_bpast rfl (n_exit (n_exit (n_bhere (n_then ?_))))))))))))))))
   have hnone := hd.stop (by rw [List.length_drop, hBl]; have := of_decide_eq_false h39; omega)
   refine r_seq (by kernel_rfl) (s_val (v_idxA (len := 5) (size := 1) (k := .i64) (by kernel_rfl) rfl rfl (by decide)) (s_val (v_load1 (v := I (vnum t.us 0)) (by kernel_rfl) rfl .here (vrow_at t.us 0 (by decide))) (s_val (v_idxA (len := 5) (size := 1) (k := .i64) (by kernel_rfl) rfl rfl (by decide)) (s_val (v_load1 (v := I (vnum t.us 1)) (by kernel_rfl) rfl .here (vrow_at t.us 1 (by decide))) (s_val (v_idxA (len := 5) (size := 1) (k := .i64) (by kernel_rfl) rfl rfl (by decide)) (s_val (v_load1 (v := I (vnum t.us 2)) (by kernel_rfl) rfl .here (vrow_at t.us 2 (by decide))) (s_val (v_idxA (len := 5) (size := 1) (k := .i64) (by kernel_rfl) rfl rfl (by decide)) (s_val (v_load1 (v := I (vnum t.us 3)) (by kernel_rfl) rfl .here (vrow_at t.us 3 (by decide))) (s_val (v_idxA (len := 5) (size := 1) (k := .i64) (by kernel_rfl) rfl rfl (by decide)) (s_val (v_load1 (v := I (vnum t.us 4)) (by kernel_rfl) rfl .here (vrow_at t.us 4 (by decide))) (s_val (v_build (vs := [(0, .int .i64 _), (1, .int .i64 _), (2, .int .i64 _), (3, .int .i64 _), (4, .int .i64 _)]) (cs := (act5 t.us).cells) rfl (by kernel_rfl)) (s_alloc (z := zeroOf Tryz.prog 34) (by kernel_rfl) (fun b13 => ?_)))))))))))))
   refine s_storeA (m := 5) (by kernel_rfl) rfl rfl .here (by kernel_rfl) rfl (ActS.all1 _) (s_nil (c_seq (r_seq (by kernel_rfl) (s_val (v_loadA (m := 5) (by kernel_rfl) rfl .here rfl) (s_call (by kernel_rfl) (fun w hw => gr_FrameOf (act5 t.us) w) (s_val (v_move (v := .tuple _) rfl) (s_val (v_extract rfl rfl) (s_val (v_extract rfl rfl) (s_val (v_assign (v := S _) rfl) (s_val (v_asI rfl) (s_nil (r_seq (by kernel_rfl) (s_val (v_mvI rfl) (s_val (v_lsI rfl rfl) (s_val (v_mvB rfl) (s_pass rfl rfl (decide_eq_true (by omega)) (s_pass rfl rfl (decide_eq_true (by omega)) (s_val (v_pickT (v := .bool _) rfl (decide_eq_true (by omega)) rfl) (s_val (v_mvB rfl) ?_)))))))))))))))))))
   refine s_pass (g := true) rfl rfl rfl (s_pass (g := true) rfl rfl rfl (s_pass (g := true) rfl rfl rfl (s_pass (g := true) rfl rfl rfl (s_pass (g := true) rfl rfl rfl (s_val (v_pickT (v := .bool _) rfl rfl rfl) (s_nil (c_condTh rfl rfl rfl (c_exit (n_exit (n_bpast rfl (n_exit (n_bhere (n_then (r_seq (by kernel_rfl) (s_val (v_move (v := _) rfl) (s_val (v_mvI rfl) (s_val (v_assign (v := _) rfl) (s_val (v_asI rfl) (s_nil ?_)))))))))))))))))))
   refine c_ret (n_doneTF rfl (by decide) (by decide) (fun w hw => ?_))
   exact ho.done (by rw [hr]; exact hpg.broken hk5 hnone) (own_fresh (hw.sub (.cons _ (.cons _ (List.Sublist.refl _)))))
 have hin := of_decide_eq_true h39
 obtain ⟨b, hbb⟩ : ∃ b, ((r.take k0).drop (t.pos - 1))[q.1]? = some b := ⟨((r.take k0).drop (t.pos - 1))[q.1]'(by rw [List.length_drop]; omega), List.getElem?_eq_getElem _⟩
 have hbi : (k0 :: r)[t.pos + q.1]? = some b := by
   have hbb' := hbb
   rw [List.getElem?_drop, hBi _ (by omega)] at hbb'
   rw [show t.pos + q.1 = t.pos - 1 + q.1 + 1 by omega]; exact hbb'
 have hb256 : b < 256 := hbr b (List.mem_of_getElem? hbi)
 refine s_want rfl rfl h39 (s_val (v_move (v := S _) rfl) (s_want rfl rfl h39 (s_val (v_mvI rfl) (s_want rfl rfl h39 (s_val (v_strIdx (by kernel_rfl) rfl rfl (by omega) hbi hb256) (s_want rfl rfl h39 (s_val (v_geq (k := .u8) rfl rfl) (s_val (v_pickT (v := .bool _) rfl h39 rfl) (s_val (v_mvB rfl) (s_splitR (s := 45) rfl (fun h45 => ?_) (fun h45 => ?_)))))))))))
 · refine s_pass rfl rfl h45 (s_pass rfl rfl h45 (s_val (v_pickF (v := .bool _) rfl h45 rfl) (s_nil (c_condFh rfl rfl rfl (c_exit (n_exit (n_exit (n_bhere (n_then (c_seq (r_seq (by kernel_rfl) (s_val (v_mvI rfl) (s_val (v_mvI rfl) (s_val (v_sub rfl rfl (by omega)) (s_val (v_geq (k := .i64) rfl rfl) (s_val (v_mvB rfl) (s_want rfl rfl (decide_eq_false (by have := of_decide_eq_true h39; omega)) (s_val (v_move (v := S _) rfl) (s_want rfl rfl (decide_eq_false (by have := of_decide_eq_true h39; omega)) ?_)))))))))))))))))))
   refine s_val (v_mvI rfl) (s_want rfl rfl (decide_eq_false (by have := of_decide_eq_true h39; omega)) (s_val (v_strIdx (by kernel_rfl) rfl rfl (by omega) hbi hb256) (s_want rfl rfl (decide_eq_false (by have := of_decide_eq_true h39; omega)) (s_val (v_geq (k := .u8) rfl rfl) (s_val (v_pickF (v := .bool _) rfl (decide_eq_false (by have := of_decide_eq_true h39; omega)) rfl) (s_nil (c_condFh rfl rfl h45 (c_skip (n_then ?_)))))))))
   have hmf := mul_fits (a := (b : Int)) (p := 128 ^ q.1) ⟨by omega, by omega⟩ hpw.1
   have hlast := (hd.last hbb (by have := of_decide_eq_false h45; omega)).2
   have h77 : (128 : Nat) ^ 7 = 562949953421312 := by decide
   refine r_seq (by kernel_rfl) (s_val (v_mvI rfl) (s_val (v_move (v := S _) rfl) (s_val (v_mvI rfl) (s_val (v_strIdx (by kernel_rfl) rfl rfl (by omega) hbi hb256) (s_val (v_ofU8 (by kernel_rfl) rfl ⟨by omega, by omega⟩) (s_val (v_mvI rfl) (s_val (v_mul rfl rfl (by omega)) (s_val (v_add rfl rfl (by omega)) (s_val (v_asI rfl) (s_nil ?_))))))))))
   rw [last_cast b q.2 q.1]
   refine r_seq (by kernel_rfl) (s_val (v_mvI rfl) (s_val (v_add rfl rfl (by omega)) (s_val (v_asI rfl) (s_nil (r_seq (by kernel_rfl) (s_val (v_mvI rfl) (s_val (v_mvI rfl) (s_val (v_quo (c := (((q.2 + b * 128 ^ q.1) / 2 : Nat) : Int)) rfl rfl (by decide) (by rw [show (((q.2 + b * 128 ^ q.1) : Nat) : Int).tdiv 2 = (((q.2 + b * 128 ^ q.1) / 2 : Nat) : Int) from tdiv_nat (q.2 + b * 128 ^ q.1) 2]; exact wr_in (by omega) (by omega))) (s_val (v_idxA (len := 5) (size := 1) (k := .i64) (by kernel_rfl) rfl rfl ⟨by omega, by omega⟩) (s_store1 (v := .int .i64 _) (by kernel_rfl) rfl rfl .here ⟨by simp only [Array.size_setIfInBounds, vrow_size]; omega, rfl⟩ rfl (s_nil (r_seq (by kernel_rfl) (s_val (v_mvI rfl) (s_val (v_rem (c := (((q.2 + b * 128 ^ q.1) % 2 : Nat) : Int)) rfl rfl (by decide) (tmod_nat _ 2)) (s_val (v_eql (k := .i64) rfl rfl) (s_nil (c_condR rfl rfl (fun h88 => ?_) (fun h88 => ?_))))))))))))))))))
   · refine c_skip (n_bnormal (n_then (r_list (by kernel_rfl) (s_val (v_mvI rfl) (s_val (v_add rfl rfl (by omega)) (s_val (v_asI rfl) (s_end (n_round (s := t) ⟨t.k + 1, t.us ++ [(q.2 + b * 128 ^ q.1)], t.pos + q.1 + 1⟩ ⟨_, hpg.next hBl hk5 hd hbb (by have := of_decide_eq_false h45; omega), live8 rfl rfl rfl rfl rfl rfl (congrArg I (by push_cast; rfl)) (congrArg I (by push_cast; rfl))⟩ (fun _ hw => by rw [← vrow_set hpg.ul hk5, ← zag_even (of_decide_eq_false h88)]; exact hw) (by dsimp only; omega)))))))))
   refine r_list (by kernel_rfl) (s_val (v_mvI rfl) (s_val (v_mvI rfl) (s_val (v_neg rfl (by omega)) (s_val (v_quo (c := -(((q.2 + b * 128 ^ q.1) / 2 : Nat) : Int)) rfl rfl (by decide) (by rw [neg_half]; exact wr_in (by omega) (by omega))) (s_val (v_sub rfl rfl (by omega)) (s_val (v_idxA (len := 5) (size := 1) (k := .i64) (by kernel_rfl) rfl rfl ⟨by omega, by omega⟩) (s_store1 (v := .int .i64 _) (by kernel_rfl) rfl rfl .here ⟨by simp only [Array.size_setIfInBounds, vrow_size]; omega, rfl⟩ rfl (s_end (n_bnormal (n_then (r_list (by kernel_rfl) (s_val (v_mvI rfl) (s_val (v_add rfl rfl (by omega)) (s_val (v_asI rfl) (s_end (n_round (s := t) ⟨t.k + 1, t.us ++ [(q.2 + b * 128 ^ q.1)], t.pos + q.1 + 1⟩ ⟨_, hpg.next hBl hk5 hd hbb (by have := of_decide_eq_false h45; omega), live8 rfl rfl rfl rfl rfl rfl (congrArg I (by push_cast; rfl)) (congrArg I (by push_cast; rfl))⟩ (fun _ hw => by rw [← vrow_set2 (x := (((q.2 + b * 128 ^ q.1) / 2 : Nat) : Int)) hpg.ul hk5, ← zag_odd' (of_decide_eq_true h88)]; exact hw) (by dsimp only; omega)))))))))))))))))
 refine s_want rfl rfl h45 (s_val (v_mvI rfl) (s_want rfl rfl h45 (s_val (v_lsI rfl rfl) (s_val (v_pickT (v := .bool _) rfl h45 rfl) (s_nil (c_cond rfl rfl (fun h48 => ?_) (fun h48 => ?_)))))))
 · have hhi := of_decide_eq_true h45
   have hj5 := (pow_lt40 hj6).1 (of_decide_eq_true h48)
   have hmf := mul_fits (a := (b : Int) - 128) (p := 128 ^ q.1) ⟨by omega, by omega⟩ hpw.1
   refine c_skip (n_then (c_block (r_seq (by kernel_rfl) (s_val (v_mvI rfl) (s_val (v_move (v := S _) rfl) (s_val (v_mvI rfl) (s_val (v_strIdx (by kernel_rfl) rfl rfl (by omega) hbi hb256) (s_val (v_u8sub rfl rfl ⟨by omega, by omega⟩) (s_val (v_ofU8 (by kernel_rfl) rfl ⟨by omega, by omega⟩) (s_val (v_mvI rfl) (s_val (v_mul rfl rfl (by omega)) (s_val (v_add rfl rfl (by omega)) (s_val (v_asI rfl) (s_nil (r_seq (by kernel_rfl) (s_val (v_mvI rfl) (s_val (v_mul rfl rfl (by omega)) (s_val (v_asI rfl) (s_nil ?_)))))))))))))))))))
   refine r_list (by kernel_rfl) (s_val (v_mvI rfl) (s_val (v_add rfl rfl (by omega)) (s_val (v_asI rfl) (s_end (n_bnormal (n_round (s := q) (q.1 + 1, q.2 + (b - 128) * 128 ^ q.1) ⟨_, hd.step hbb (by omega) hb256 hj5, live10 rfl rfl rfl rfl rfl rfl (congrArg I (by push_cast; omega)) rfl (congrArg I (dig_cast (by omega))) (congrArg I (by rw [Nat.pow_succ]; push_cast; rfl))⟩ (fun _ hw => hw) (by dsimp only; omega)))))))
 refine c_exit (n_exit (n_exit (n_bhere (n_then (c_seq (r_seq (by kernel_rfl) (s_val (v_mvI rfl) (s_val (v_mvI rfl) (s_val (v_sub rfl rfl (by omega)) (s_val (v_geq (k := .i64) rfl rfl) (s_val (v_mvB rfl) (s_want rfl rfl (decide_eq_false (by have := of_decide_eq_true h39; omega)) (s_val (v_move (v := S _) rfl) (s_want rfl rfl (decide_eq_false (by have := of_decide_eq_true h39; omega)) (s_val (v_mvI rfl) (s_want rfl rfl (decide_eq_false (by have := of_decide_eq_true h39; omega)) (s_val (v_strIdx (by kernel_rfl) rfl rfl (by omega) hbi hb256) (s_want rfl rfl (decide_eq_false (by have := of_decide_eq_true h39; omega)) (s_val (v_geq (k := .u8) rfl rfl) ?_)))))))))))))))))))
 refine s_val (v_pickF (v := .bool _) rfl (decide_eq_false (by have := of_decide_eq_true h39; omega)) rfl) (s_nil (c_condTh rfl rfl h45 (c_exit (n_exit (n_bpast rfl (n_exit (n_exit (n_bhere (n_then ?_)))))))))
 have hnone := hd.high hbb (by have := of_decide_eq_true h45; omega) (fun h => absurd ((pow_lt40 hj6).2 h) (of_decide_eq_false h48))
 refine r_seq (by kernel_rfl) (s_val (v_idxA (len := 5) (size := 1) (k := .i64) (by kernel_rfl) rfl rfl (by decide)) (s_val (v_load1 (v := I (vnum t.us 0)) (by kernel_rfl) rfl .here (vrow_at t.us 0 (by decide))) (s_val (v_idxA (len := 5) (size := 1) (k := .i64) (by kernel_rfl) rfl rfl (by decide)) (s_val (v_load1 (v := I (vnum t.us 1)) (by kernel_rfl) rfl .here (vrow_at t.us 1 (by decide))) (s_val (v_idxA (len := 5) (size := 1) (k := .i64) (by kernel_rfl) rfl rfl (by decide)) (s_val (v_load1 (v := I (vnum t.us 2)) (by kernel_rfl) rfl .here (vrow_at t.us 2 (by decide))) (s_val (v_idxA (len := 5) (size := 1) (k := .i64) (by kernel_rfl) rfl rfl (by decide)) (s_val (v_load1 (v := I (vnum t.us 3)) (by kernel_rfl) rfl .here (vrow_at t.us 3 (by decide))) (s_val (v_idxA (len := 5) (size := 1) (k := .i64) (by kernel_rfl) rfl rfl (by decide)) (s_val (v_load1 (v := I (vnum t.us 4)) (by kernel_rfl) rfl .here (vrow_at t.us 4 (by decide))) (s_val (v_build (vs := [(0, .int .i64 _), (1, .int .i64 _), (2, .int .i64 _), (3, .int .i64 _), (4, .int .i64 _)]) (cs := (act5 t.us).cells) rfl (by kernel_rfl)) (s_alloc (z := zeroOf Tryz.prog 34) (by kernel_rfl) (fun b13 => ?_)))))))))))))
 refine s_storeA (m := 5) (by kernel_rfl) rfl rfl .here (by kernel_rfl) rfl (ActS.all1 _) (s_nil (c_seq (r_seq (by kernel_rfl) (s_val (v_loadA (m := 5) (by kernel_rfl) rfl .here rfl) (s_call (by kernel_rfl) (fun w hw => gr_FrameOf (act5 t.us) w) (s_val (v_move (v := .tuple _) rfl) (s_val (v_extract rfl rfl) (s_val (v_extract rfl rfl) (s_val (v_assign (v := S _) rfl) (s_val (v_asI rfl) (s_nil (r_seq (by kernel_rfl) (s_val (v_mvI rfl) (s_val (v_lsI rfl rfl) (s_val (v_mvB rfl) (s_pass rfl rfl (decide_eq_true (by omega)) (s_pass rfl rfl (decide_eq_true (by omega)) (s_val (v_pickT (v := .bool _) rfl (decide_eq_true (by omega)) rfl) (s_val (v_mvB rfl) ?_)))))))))))))))))))
 refine s_pass (g := true) rfl rfl rfl (s_pass (g := true) rfl rfl rfl (s_pass (g := true) rfl rfl rfl (s_pass (g := true) rfl rfl rfl (s_pass (g := true) rfl rfl rfl (s_val (v_pickT (v := .bool _) rfl rfl rfl) (s_nil (c_condTh rfl rfl rfl (c_exit (n_exit (n_bpast rfl (n_exit (n_bhere (n_then (r_seq (by kernel_rfl) (s_val (v_move (v := _) rfl) (s_val (v_mvI rfl) (s_val (v_assign (v := _) rfl) (s_val (v_asI rfl) (s_nil ?_)))))))))))))))))))
 refine c_ret (n_doneTF rfl (by decide) (by decide) (fun w hw => ?_))
 exact ho.done (by rw [hr]; exact hpg.broken hk5 hnone) (own_fresh (hw.sub (.cons _ (.cons _ (List.Sublist.refl _)))))
end Go.Proofs.YtmkboljfbmlebacGreat
