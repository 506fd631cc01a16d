/- What the laws of this place stand on, part 3. Each part names its own conditions in what it states. -/
import Derived.Test.YtmkboljfbmlebabQ2
import Derived.Great.BuildSlice
import Derived.Laws.IdiomStrings
import Derived.Laws.Strings3
import Derived.Laws.Concat
import Derived.Laws.Entries
namespace Go.Proofs.Ytmkboljfbmlebab
open Go.RowKit
set_option linter.unusedSimpArgs false
set_option linter.unusedVariables false
section
variable {P : Program} {n : Nat} {C0 C1 : World → Prop} {f : Nat → Value} {l : List Oper} {Ψ : Nat → Value → Prop} {Q : Exit → (Nat → Value) → World → Prop}
def Fix (Ψ : Nat → Value → Prop) : Nat → Value → World → Prop := fun d v _ => Ψ d v
def ObW (P : Program) (C0 C1 : World → Prop) (f : Nat → Value) (l : List Oper) (Ψ : Nat → Value → Prop) (o : Oper) : Prop :=
 ∀ g, (∀ t ∈ o.looksAt l.toArray, (t ∈ dstsOf l → Ψ t (g t)) ∧ (t ∉ dstsOf l → g t = f t)) → o.guard = none ∧ sC P l.toArray (fun g' w' => ∃ v, g' = updo g o.dst v ∧ C1 w' ∧ ∀ d, o.dst = some d → Ψ d v) [o] g C0
structure FlowInvW (C0 C1 : World → Prop) (j0 : Nat) (f : Nat → Value) (l : List Oper) (Ψ : Nat → Value → Prop) (s : Array Bool) (g : Nat → Value) (w : World) : Prop where
 size : s.size = l.length
 cls0 : s[j0]? = some false → C0 w
 cls1 : s[j0]? = some true → C1 w
 done : ∀ (i : Nat) (o : Oper) (d : Nat), l[i]? = some o → s[i]? = some true → o.dst = some d → Ψ d (g d)
 out : ∀ t, t ∉ dstsOf l → g t = f t
theorem d_flowW {id j0 : Nat} {o0 : Oper} (hm : P.follows .mixedOrders = true) (hB : opsB n l.toArray = true) (hF : flowB .any l = true) (hj0 : l[j0]? = some o0) (hC0 : ∀ w w', C0 w → Bel w.heap.size w w' → C0 w') (hC1 : ∀ w w', C1 w → Bel w.heap.size w w' → C1 w')
   (h0 : Obs P C0 f l (Fix Ψ) (l.eraseIdx j0)) (h1 : Obs P C1 f l (Fix Ψ) (l.eraseIdx j0)) (hst : ObW P C0 C1 f l Ψ o0)
   (k : ∀ g w, C1 w → (∀ d ∈ dstsOf l, Ψ d (g d)) → (∀ t, t ∉ dstsOf l → g t = f t) → Q .normal g w) : cC P n (.region id l.toArray true) Q f C0 := by
 simp only [flowB, Bool.and_eq_true, decide_eq_true_eq, List.all_eq_true] at hF
 obtain ⟨⟨hnd, hsel⟩, hall⟩ := hF
 have hop : ∀ (i : Nat) (o : Oper), l[i]? = some o → (∀ t ∈ o.looksAt l.toArray, ∀ (j : Nat) (u : Oper), l[j]? = some u → u.dst = some t → ∃ e ∈ o.after, Region.binds .any e = true ∧ e.on = j) ∧ (∀ e ∈ o.after, Region.binds .any e = true → e.on < i) := by
   intro i o hi
   have := hall (o, i) (List.mem_zipIdx_iff_getElem?.2 hi)
   simp only [Bool.and_eq_true, List.all_eq_true] at this
   obtain ⟨h1, h2⟩ := this
   refine ⟨fun t ht j u hj hu => ?_, fun e he hb => ?_⟩
   · have := h1 t ht (u, j) (List.mem_zipIdx_iff_getElem?.2 hj)
     simp [hu] at this
     obtain ⟨i', hi', e1, e2⟩ := this
     exact ⟨_, Array.getElem_mem hi', e1, e2⟩
   · have := Array.all_eq_true_iff_forall_mem.1 h2 e he
     simpa [hb] using this
 have hB' : ∀ o ∈ l, operB n l.toArray o = true := by simpa [opsB] using hB
 have hj0l : j0 < l.length := (List.getElem?_eq_some_iff.1 hj0).1
 have main : ∀ (fuel : Nat) (s : Array Bool) (g : Nat → Value) (w : World), FlowInvW C0 C1 j0 f l Ψ s g w → s.toList.countP unset ≤ fuel → wpAny P .any l.toArray (fun e a w => ∃ f, a = Fa n f ∧ Q e f w) fuel s (Fa n g) w := by
   have all : ∀ (s : Array Bool) (g : Nat → Value) (w : World), FlowInvW C0 C1 j0 f l Ψ s g w → Region.ready .any l.toArray s = [] → Q .normal g w := by
     intro s g w inv hr
     have hls : ∀ i, i < l.length → s[i]? = some true := by
       intro i
       induction i using Nat.strongRecOn with
       | _ i ih =>
         intro hi
         have his : i < s.size := by rw [inv.size]; exact hi
         cases hv : s[i] with
         | true => simp [his, hv]
         | false =>
           exfalso
           have : i ∈ Region.ready .any l.toArray s := mem_ready.2 ⟨by simp [Array.getD, his, hv], l[i], by simp [hi], fun e he hb => by
             have hlt := (hop i l[i] (by simp [hi])).2 e he hb
             have := ih e.on hlt (by omega)
             have hsz := (Array.getElem?_eq_some_iff.1 this)
             obtain ⟨h1, h2⟩ := hsz
             simp [Array.getD, h1, h2]⟩
           rw [hr] at this
           cases this
     refine k g w (inv.cls1 (hls j0 hj0l)) (fun d hd => ?_) inv.out
     obtain ⟨o, ho, hd'⟩ := List.mem_filterMap.1 hd
     obtain ⟨i, hi, he⟩ := List.getElem_of_mem ho
     exact inv.done i o d (by simp [hi, he]) (hls i hi) hd'
   intro fuel
   induction fuel with
   | zero =>
     intro s g w inv hc
     have hr : Region.ready .any l.toArray s = [] := by
       cases hr : Region.ready .any l.toArray s with
       | nil => rfl
       | cons i r =>
         exfalso
         have hi := (mem_ready.1 (show i ∈ Region.ready .any l.toArray s by rw [hr]; simp)).1
         have : false ∈ s.toList := by
           by_cases hs : i < s.size
           · simp [Array.getD, hs] at hi
             rw [← hi]; simp
           · simp [Array.getD, hs] at hi
         have := List.countP_pos_iff (p := unset).2 ⟨false, this, rfl⟩
         omega
     exact ⟨hr, g, rfl, all s g w inv hr⟩
   | succ fuel ih =>
     intro s g w inv hc
     refine ⟨fun hr => ⟨g, rfl, all s g w inv hr⟩, fun i hi => ?_⟩
     obtain ⟨hun, o, ho, hed⟩ := mem_ready.1 hi
     have hol : l[i]? = some o := by simpa using ho
     have hom : o ∈ l := List.mem_of_getElem? hol
     have his : i < s.size := by
       rcases Nat.lt_or_ge i s.size with h | h
       · exact h
       · have hn : ¬ i < s.size := by omega
         simp [Array.getD, hn] at hun
     have hfalse : s[i] = false := by simpa [Array.getD, his] using hun
     have hcount : (s.setIfInBounds i true).toList.countP unset ≤ fuel := by
       have e1 : unset (s.toList[i]'(by simpa using his)) = true := by simp [unset, hfalse]
       have h0 : 0 < s.toList.countP unset := List.countP_pos_iff.2 ⟨s.toList[i]'(by simpa using his), List.getElem_mem _, e1⟩
       rw [Array.toList_setIfInBounds, List.countP_set (by simpa using his), if_pos e1, if_neg (by simp [unset])]
       omega
     have hlk : ∀ t ∈ o.looksAt l.toArray, (t ∈ dstsOf l → Ψ t (g t)) ∧ (t ∉ dstsOf l → g t = f t) := fun t ht => ⟨fun htd => by
       obtain ⟨u, hu, hut⟩ := List.mem_filterMap.1 htd
       obtain ⟨j, hj, he⟩ := List.getElem_of_mem hu
       have hj' : l[j]? = some u := by simp [hj, he]
       obtain ⟨e, he1, he2, he3⟩ := (hop i o hol).1 t ht j u hj' hut
       have := hed e he1 he2
       rw [he3] at this
       refine inv.done j u t hj' ?_ hut
       have hjs : j < s.size := by rw [inv.size]; exact hj
       simp [Array.getD, hjs] at this
       simp [hjs, this], inv.out t⟩
     have next : ∀ v w', ((s.setIfInBounds i true)[j0]? = some false → C0 w') → ((s.setIfInBounds i true)[j0]? = some true → C1 w') → (∀ d, o.dst = some d → Ψ d v) → FlowInvW C0 C1 j0 f l Ψ (s.setIfInBounds i true) (updo g o.dst v) w' := by
       intro v w' hc0 hc1 hv
       refine ⟨by simp [inv.size], hc0, hc1, fun j u d hj hs hu => ?_, fun t ht => ?_⟩
       · by_cases hji : j = i
         · subst hji
           rw [hol] at hj
           simp at hj; subst hj
           rw [hu]
           simp only [updo, upd_same]
           exact hv d hu
         · have hs' : s[j]? = some true := by rw [Array.getElem?_setIfInBounds_ne (Ne.symm hji)] at hs; exact hs
           have hne : o.dst ≠ some d := fun e => hji (dst_unique hnd hj hol hu e)
           have := inv.done j u d hj hs' hu
           cases hod : o.dst with
           | none => exact this
           | some d' =>
             simp only [updo]
             rw [upd_other g v (fun e => hne (by rw [hod, e]))]
             exact this
       · cases hod : o.dst with
         | none => exact inv.out t ht
         | some d' =>
           simp only [updo]
           rw [upd_other g v (fun e => ht (List.mem_filterMap.2 ⟨o, hom, by rw [hod, e]⟩))]
           exact inv.out t ht
     have hob : if Region.wanted o (yf l.toArray g) then opk P o g w (fun g' w' => ∃ v, g' = updo g o.dst v ∧ FlowInvW C0 C1 j0 f l Ψ (s.setIfInBounds i true) (updo g o.dst v) w') else FlowInvW C0 C1 j0 f l Ψ (s.setIfInBounds i true) (updo g o.dst undef) w := by
       by_cases hij : i = j0
       · subst hij
         rw [hol] at hj0
         simp at hj0; subst hj0
         obtain ⟨hgd, hsc⟩ := hst g hlk
         have hc0 := inv.cls0 (by simp [his, hfalse])
         have := hsc w hc0
         have hwt : Region.wanted o (yf l.toArray g) = true := by
           unfold Region.wanted; rw [hgd]
         unfold sw at this
         rw [if_pos hwt] at this ⊢
         unfold opk at this ⊢
         have fin : ∀ g' w', (∃ v, g' = updo g o.dst v ∧ C1 w' ∧ ∀ d, o.dst = some d → Ψ d v) → ∃ v, g' = updo g o.dst v ∧ FlowInvW C0 C1 i f l Ψ (s.setIfInBounds i true) (updo g o.dst v) w' := by
           rintro g' w' ⟨v, e, hc1, hv⟩
           exact ⟨v, e, next v w' (fun hx => by simp [his] at hx) (fun _ => hc1) hv⟩
         generalize (execOp (ev g) o).run P w = r at this ⊢
         cases r with
         | ok nx w' =>
           cases nx <;> simp only at this ⊢
           case value v => exact fin _ _ this
           case skip => exact fin _ _ this
           case enter fn args => exact Calls.mono this fun e w'' ⟨v, he, h⟩ => ⟨v, he, fin _ _ h⟩
         | halt x w' => exact this
       · have hmem : o ∈ l.eraseIdx j0 := List.mem_eraseIdx_iff_getElem?.2 ⟨i, hij, hol⟩
         have hsj : (s.setIfInBounds i true)[j0]? = s[j0]? := Array.getElem?_setIfInBounds_ne hij
         have both : ∀ C : World → Prop, (∀ w w', C w → Bel w.heap.size w w' → C w') → Obs P C f l (Fix Ψ) (l.eraseIdx j0) → C w → ((s[j0]? = some false → C = C0) ∧ (s[j0]? = some true → C = C1)) →
             if Region.wanted o (yf l.toArray g) then opk P o g w (fun g' w' => ∃ v, g' = updo g o.dst v ∧ FlowInvW C0 C1 j0 f l Ψ (s.setIfInBounds i true) (updo g o.dst v) w') else FlowInvW C0 C1 j0 f l Ψ (s.setIfInBounds i true) (updo g o.dst undef) w := by
           intro C hC hO hw hcc
           have hb := hO.mem o hmem g w hw hlk
           have nx : ∀ v w', Bel w.heap.size w w' → (∀ d, o.dst = some d → Ψ d v) → FlowInvW C0 C1 j0 f l Ψ (s.setIfInBounds i true) (updo g o.dst v) w' := fun v w' hbel hv =>
             next v w' (fun hx => by rw [hsj] at hx; rw [← hcc.1 hx]; exact hC w w' hw hbel) (fun hx => by rw [hsj] at hx; rw [← hcc.2 hx]; exact hC w w' hw hbel) hv
           split
           · rename_i hwt
             rw [if_pos hwt] at hb
             unfold opk at hb ⊢
             generalize (execOp (ev g) o).run P w = r at hb ⊢
             cases r with
             | ok nx' w' =>
               cases nx' <;> simp only at hb ⊢
               case value v => obtain ⟨v', e, hbel, hv⟩ := hb; exact ⟨v', e, nx v' w' hbel hv⟩
               case skip => obtain ⟨v', e, hbel, hv⟩ := hb; exact ⟨v', e, nx v' w' hbel hv⟩
               case enter fn args => exact Calls.mono hb fun e w'' ⟨v, he, v', e', hbel, hv⟩ => ⟨v, he, v', e', nx v' w'' hbel hv⟩
             | halt x w' => exact hb
           · rename_i hwt
             rw [if_neg hwt] at hb
             exact nx undef w (Bel.refl _ _) hb
         have hjs : j0 < s.size := by rw [inv.size]; exact hj0l
         cases hv : s[j0] with
         | false =>
           have e : s[j0]? = some false := by simp [hjs, hv]
           exact both C0 hC0 h0 (inv.cls0 e) ⟨fun _ => rfl, fun h => by rw [e] at h; simp at h⟩
         | true =>
           have e : s[j0]? = some true := by simp [hjs, hv]
           exact both C1 hC1 h1 (inv.cls1 e) ⟨fun h => by rw [e] at h; simp at h, fun _ => rfl⟩
     unfold wpOp
     simp only [ho]
     rw [Fa_wanted (hB' o hom)]
     split
     · rename_i hw
       rw [if_pos hw] at hob
       refine Or.inl ?_
       unfold Oper.wp
       rw [Fa_exec (hB' o hom)]
       unfold opk at hob
       generalize (execOp (ev g) o).run P w = r at hob
       cases r with
       | ok nx w' =>
         cases nx <;> simp only at hob <;> simp only [Oper.upon]
         case value v =>
           obtain ⟨v', e, hinv⟩ := hob
           rw [Fa_put, e]
           exact ih _ _ _ hinv hcount
         case skip =>
           obtain ⟨v', e, hinv⟩ := hob
           rw [Fa_put, e]
           exact ih _ _ _ hinv hcount
         case enter fn args =>
           refine Calls.mono hob fun e w'' ⟨v, he, v', e', hinv⟩ => ?_
           subst he
           show wpAny P .any l.toArray _ fuel _ ((Fa n g).put o.dst v) w''
           rw [Fa_put, e']
           exact ih _ _ _ hinv hcount
       | halt x w' => exact hob.elim
     · rename_i hw
       rw [if_neg hw] at hob
       rw [Fa_put]
       exact ih _ _ _ hob hcount
 intro w hw
 refine wp_region_any hm ?_
 refine main _ _ f w.drew ⟨by simp, fun _ => hC0 w _ hw ((Bel.refl _ _).drew), fun hx => ?_, fun i o d hi hs hd => ?_, fun _ _ => rfl⟩ ?_
 · rw [Array.getElem?_replicate] at hx
   split at hx <;> simp at hx
 · rw [Array.getElem?_replicate] at hs
   split at hs <;> simp at hs
 · have := List.countP_le_length (p := unset) (l := (Array.replicate l.toArray.size false).toList)
   simpa using this
def rowV (d : Nat) (v : Value) (T : Nat → Value → Prop) : Nat → Value → Prop := fun i => bif Nat.beq i d then (fun u => u = v) else T i
def AnyV : Nat → Value → Prop := fun _ _ => True
theorem ow_end {g : Nat → Value} {ops : Array Oper} : sC P ops (fun g' w' => ∃ v, g' = updo g none v ∧ C1 w' ∧ ∀ d, (none : Option Nat) = some d → Ψ d v) [] g C1 := fun w hw => ⟨undef, rfl, hw, fun d h => by cases h⟩
variable {w0 : World} {F : Addr → Value → Prop} {L L' : List (Nat × Obj)}
theorem fw_seq {id j0 : Nat} {o0 : Oper} {y : Code} (hm : P.follows .mixedOrders = true) (hB : opsB n l.toArray = true) (hF : flowB .any l = true) (hj0 : l[j0]? = some o0)
   (h0 : Obs P (Has w0 F L) f l (Fix Ψ) (l.eraseIdx j0)) (h1 : Obs P (Has w0 F L') f l (Fix Ψ) (l.eraseIdx j0)) (hst : ObW P (Has w0 F L) (Has w0 F L') f l Ψ o0)
   (k : ∀ g, (∀ d ∈ dstsOf l, Ψ d (g d)) → (∀ t, t ∉ dstsOf l → g t = f t) → cC P n y Q g (Has w0 F L')) : cC P n (.seq (.region id l.toArray true) y) Q f (Has w0 F L) :=
 c_seq (d_flowW hm hB hF hj0 (fun w w' hw hb => hw.below hb) (fun w w' hw hb => hw.below hb) h0 h1 hst (fun g w hw h1 h2 => k g h1 h2 w hw))
variable {d : Nat} {op : Op} {ty : TypeId} {pos : String} {af : Array Edge} {C : World → Prop}
theorem obw_val {v : Value} (h : ∀ (g : Nat → Value), (∀ t ∈ (⟨some d, op, ty, pos, af, none⟩ : Oper).looksAt l.toArray, (t ∈ dstsOf l → Ψ t (g t)) ∧ (t ∉ dstsOf l → g t = f t)) → Val P g C ⟨some d, op, ty, pos, af, none⟩ v ∧ Ψ d v) : Ob P C f l (Fix Ψ) ⟨some d, op, ty, pos, af, none⟩ := by
 intro g w hw hl
 rw [if_pos wanted_free]
 obtain ⟨hv, hp⟩ := h g hl
 unfold opk
 rw [hv.out w hw]
 exact ⟨v, rfl, Bel.refl _ _, fun e he => by simp at he; subst he; exact hp⟩
end
end Go.Proofs.Ytmkboljfbmlebab
namespace Go.Proofs.Ytmkboljfbmlebab
open Go.RowKit
set_option linter.unusedSimpArgs false
set_option linter.unusedVariables false
def sliceCells (P : Program) (T : TypeId) (len : Nat) (vs : List (Nat × Value)) : Option (TypeId × Array Value) := match P.underlying T with
 | some (.slice e) => match P.info? e with
   | some i => match i.zero with
     | some z => if len * i.size ≤ 100000 ∧ 0 < len * i.size then (Instr.fill (fun k => some (k * i.size, i.size)) ((Array.range (len * i.size)).map (z.cells[· % z.cells.size]!)) vs).map fun cs => (e, cs) else none
     | none => none
   | none => none
 | _ => none
section
variable {P : Program} {ops : Array Oper} {K : (Nat → Value) → World → Prop} {rest : List Oper} {f : Nat → Value} {d : Nat} {ty : TypeId} {pos : String} {af : Array Edge} {w0 : World} {F : Addr → Value → Prop} {E L : List (Nat × Obj)}
theorem s_buildS {T e len : Nat} {parts : List (Nat × Operand)} {vs : List (Nat × Value)} {cs : Array Value} (hv : parts.map (fun p => (p.1, ev f p.2)) = vs) (h : sliceCells P T len vs = some (e, cs))
   (kk : ∀ b, sC P ops K rest (upd f d (.slice (some ⟨b, 0, none⟩) len len)) (Has w0 F ((b, .cells cs e) :: L))) :
   sC P ops K (⟨some d, .buildSlice T len parts.toArray, ty, pos, af, none⟩ :: rest) f (Has w0 F L) := by
 intro w hw
 unfold sliceCells at h
 split at h
 · rename_i e' hu
   split at h
   · rename_i i hi
     split at h
     · rename_i z hz
       split at h
       · rename_i hb
         cases hfl : Instr.fill (fun k => some (k * i.size, i.size)) ((Array.range (len * i.size)).map (z.cells[· % z.cells.size]!)) vs with
         | none => rw [hfl] at h; cases h
         | some cs' =>
           rw [hfl] at h
           simp at h
           obtain ⟨rfl, rfl⟩ := h
           have hr := run_buildSlice (P := P) w T e' len vs.toArray cs' i z hu hi hz (by omega) (by omega) (by simpa using hfl)
           have e1 : (parts.toArray.map fun p => (p.1, ev f p.2)) = vs.toArray := by simp [hv]
           unfold sw
           rw [if_pos wanted_free]
           unfold opk
           have : (execOp (ev f) ⟨some d, .buildSlice T len parts.toArray, ty, pos, af, none⟩).run P w = .ok (.value (.slice (some ⟨w.heap.size, 0, none⟩) len len)) (w.alloc (.cells cs' e')) := by
             simp only [execOp]
             rw [e1]
             simp [hr]
           rw [this]
           exact kk _ _ (hw.alloc _)
       · cases h
     · cases h
   · cases h
 · cases h
theorem c_forget {n : Nat} {Q : Exit → (Nat → Value) → World → Prop} {y : Code} (h : ∀ F' : Addr → Value → Prop, More F F' → Knows F' E → cC P n y Q f (Has w0 F' L)) : cC P n y Q f (Has w0 F (E ++ L)) := fun w hw => by
 obtain ⟨h1, h2, h3⟩ := hw.forget
 exact h _ h2 h3 w h1
end
end Go.Proofs.Ytmkboljfbmlebab
namespace Go.Proofs.Ytmkboljfbmlebab
set_option linter.unusedSimpArgs false
set_option linter.unusedVariables false
structure ActS where
  kind : Int
  a : Int
  b : Int
  c : Int
  n : Int
deriving DecidableEq
def zig (n : Int) : Nat := if n < 0 then (-2 * n - 1).toNat else (2 * n).toNat
def zag (u : Nat) : Int := if u % 2 = 1 then -((u / 2 : Nat) : Int) - 1 else ((u / 2 : Nat) : Int)
theorem zag_zig (n : Int) : zag (zig n) = n := by unfold zag zig; split <;> split <;> omega
def digs (u : Nat) : List Nat := if u < 128 then [u] else (128 + u % 128) :: digs (u / 128)
termination_by u
theorem digs_lo {u : Nat} (h : u < 128) : digs u = [u] := by rw [digs, if_pos h]
theorem digs_hi {u : Nat} (h : ¬ u < 128) : digs u = (128 + u % 128) :: digs (u / 128) := by rw [digs, if_neg h]
theorem digs_byte (u : Nat) : ∀ b ∈ digs u, b < 256 := by
 induction u using Nat.strongRecOn with
 | _ u ih =>
   by_cases h : u < 128
   · rw [digs_lo h]; intro b hb; simp at hb; omega
   · rw [digs_hi h]
     intro b hb
     rcases List.mem_cons.1 hb with rfl | hb
     · omega
     · exact ih (u / 128) (by omega) b hb
theorem digs_len (k : Nat) : ∀ u, u < 128 ^ (k + 1) → (digs u).length ≤ k + 1 := by
 induction k with
 | zero => intro u h; rw [digs_lo (by omega)]; simp
 | succ k ih =>
   intro u h
   by_cases hl : u < 128
   · rw [digs_lo hl]; simp
   · rw [digs_hi hl]
     have := ih (u / 128) (Nat.div_lt_of_lt_mul (by rw [Nat.pow_succ] at h; omega))
     simp only [List.length_cons]; omega
theorem digs_pos (u : Nat) : 1 ≤ (digs u).length := by
 by_cases h : u < 128
 · rw [digs_lo h]; simp
 · rw [digs_hi h]; simp
def undig : Nat → List Nat → Option (Nat × List Nat)
 | 0, _ => none
 | _ + 1, [] => none
 | f + 1, b :: r => if b < 128 then some (b, r) else (undig f r).map fun p => (b - 128 + 128 * p.1, p.2)
theorem undig_digs (f : Nat) : ∀ u r, u < 128 ^ (f + 1) → undig (f + 1) (digs u ++ r) = some (u, r) := by
 induction f with
 | zero => intro u r h; have hl : u < 128 := by omega
           rw [digs_lo hl]; simp [undig, hl]
 | succ f ih =>
   intro u r h
   by_cases hl : u < 128
   · rw [digs_lo hl]; simp [undig, hl]
   · rw [digs_hi hl]
     have := ih (u / 128) r (Nat.div_lt_of_lt_mul (by rw [Nat.pow_succ] at h; omega))
     rw [List.cons_append, undig, if_neg (show ¬ 128 + u % 128 < 128 by omega), this, Option.map_some]
     congr 2
     show 128 + u % 128 - 128 + 128 * (u / 128) = u
     omega
def notedI (n : Int) : Bool := decide (-1073741824 ≤ n) && decide (n ≤ 1073741824)
def noted (x : ActS) : Bool := notedI x.kind && notedI x.a && notedI x.b && notedI x.c && notedI x.n
def bodyOf (x : ActS) : List Nat := digs (zig x.kind) ++ digs (zig x.a) ++ digs (zig x.b) ++ digs (zig x.c) ++ digs (zig x.n)
def sumOf (l : List Nat) : Nat × Nat := l.foldl (fun p b => (p.1 + b, p.2 + (p.1 + b))) (1, 0)
def frameOf (x : ActS) : List Nat := (bodyOf x).length :: (bodyOf x ++ [(sumOf (bodyOf x)).1 % 251, (sumOf (bodyOf x)).2 % 251])
theorem zig_lt {n : Int} (h : notedI n = true) : zig n < 128 ^ 5 := by
 simp [notedI] at h
 unfold zig; split <;> omega
theorem body_len {x : ActS} (h : noted x = true) : 5 ≤ (bodyOf x).length ∧ (bodyOf x).length ≤ 25 := by
 simp only [noted, Bool.and_eq_true] at h
 obtain ⟨⟨⟨⟨h1, h2⟩, h3⟩, h4⟩, h5⟩ := h
 have a1 := digs_len 4 _ (zig_lt h1)
 have a2 := digs_len 4 _ (zig_lt h2)
 have a3 := digs_len 4 _ (zig_lt h3)
 have a4 := digs_len 4 _ (zig_lt h4)
 have a5 := digs_len 4 _ (zig_lt h5)
 have b1 := digs_pos (zig x.kind)
 have b2 := digs_pos (zig x.a)
 have b3 := digs_pos (zig x.b)
 have b4 := digs_pos (zig x.c)
 have b5 := digs_pos (zig x.n)
 simp only [bodyOf, List.length_append]; omega
theorem frame_len (x : ActS) : (frameOf x).length = (bodyOf x).length + 3 := by simp [frameOf]
theorem body_byte (x : ActS) : ∀ b ∈ bodyOf x, b < 256 := by
 intro b hb
 simp only [bodyOf, List.mem_append] at hb
 rcases hb with (((h | h) | h) | h) | h <;> exact digs_byte _ b h
theorem frame_byte {x : ActS} (h : noted x = true) : ∀ b ∈ frameOf x, b < 256 := by
 intro b hb
 have := body_len h
 simp only [frameOf, List.mem_cons, List.mem_append] at hb
 rcases hb with rfl | hb | rfl | rfl | hb
 · omega
 · exact body_byte x b hb
 · omega
 · omega
 · cases hb
def parse5 (l : List Nat) : Option (ActS × List Nat) :=
 match undig 7 l with
 | none => none
 | some (u1, l1) => match undig 7 l1 with
   | none => none
   | some (u2, l2) => match undig 7 l2 with
     | none => none
     | some (u3, l3) => match undig 7 l3 with
       | none => none
       | some (u4, l4) => match undig 7 l4 with
         | none => none
         | some (u5, l5) => some (⟨zag u1, zag u2, zag u3, zag u4, zag u5⟩, l5)
theorem zig_lt7 {n : Int} (h : notedI n = true) : zig n < 128 ^ 7 := Nat.lt_of_lt_of_le (zig_lt h) (by decide)
theorem parse_body {x : ActS} (h : noted x = true) (r : List Nat) : parse5 (bodyOf x ++ r) = some (x, r) := by
 simp only [noted, Bool.and_eq_true] at h
 obtain ⟨⟨⟨⟨h1, h2⟩, h3⟩, h4⟩, h5⟩ := h
 simp only [parse5, bodyOf, List.append_assoc]
 rw [undig_digs 6 _ _ (zig_lt7 h1)]
 simp only
 rw [undig_digs 6 _ _ (zig_lt7 h2)]
 simp only
 rw [undig_digs 6 _ _ (zig_lt7 h3)]
 simp only
 rw [undig_digs 6 _ _ (zig_lt7 h4)]
 simp only
 rw [undig_digs 6 _ _ (zig_lt7 h5)]
 simp only [zag_zig]
def Stands (x : ActS) (l : List Nat) : Prop := noted x = true ∧ frameOf x <+: l
def first? (l : List Nat) : Option ActS := match l with
 | [] => none
 | k :: r => match parse5 (r.take k) with
   | some (x, []) => if noted x = true ∧ frameOf x <+: l then some x else none
   | _ => none
theorem first_iff (l : List Nat) (x : ActS) : first? l = some x ↔ Stands x l := by
 constructor
 · intro h
   unfold first? at h
   split at h
   · cases h
   · split at h
     · split at h
       · rename_i hh
         simp at h; subst h; exact hh
       · cases h
     · cases h
 · rintro ⟨nx, hp⟩
   obtain ⟨r, hr⟩ := hp
   have hl : l = (bodyOf x).length :: (bodyOf x ++ ([(sumOf (bodyOf x)).1 % 251, (sumOf (bodyOf x)).2 % 251] ++ r)) := by rw [← hr]; simp [frameOf]
   have ht : (bodyOf x ++ ([(sumOf (bodyOf x)).1 % 251, (sumOf (bodyOf x)).2 % 251] ++ r)).take (bodyOf x).length = bodyOf x := List.take_left
   have hpp := parse_body nx []
   rw [List.append_nil] at hpp
   subst hl
   unfold first?
   simp only [ht, hpp]
   rw [if_pos]
   exact ⟨nx, ⟨r, hr⟩⟩
theorem first_none (l : List Nat) : first? l = none ↔ ∀ x, ¬ Stands x l := by
 constructor
 · intro h x hx
   rw [(first_iff l x).2 hx] at h; cases h
 · intro h
   cases hf : first? l with
   | none => rfl
   | some x => exact absurd ((first_iff l x).1 hf) (h x)
def readM (l : List Nat) : List ActS := match h : first? l with
  | none => []
  | some x => x :: readM (l.drop (frameOf x).length)
termination_by l.length
decreasing_by
  have hs := ((first_iff l x).1 h).2.length_le
  have := frame_len x
  simp only [List.length_drop]
  omega
theorem readM_none {l : List Nat} (h : first? l = none) : readM l = [] := by
 rw [readM]
 split
 · rfl
 · rename_i x hx; rw [h] at hx; cases hx
theorem readM_some {l : List Nat} {x : ActS} (h : first? l = some x) : readM l = x :: readM (l.drop (frameOf x).length) := by
 rw [readM]
 split
 · rename_i hx; rw [h] at hx; cases hx
 · rename_i y hy; rw [h] at hy; simp at hy; subst hy; rfl
def bytesOf (xs : List ActS) : List Nat := xs.flatMap frameOf
theorem readM_bytes (l : List Nat) : bytesOf (readM l) <+: l ∧ ∀ x ∈ readM l, noted x = true := by
 generalize hn : l.length = n
 induction n using Nat.strongRecOn generalizing l with
 | _ n ih =>
   cases h : first? l with
   | none => rw [readM_none h]; exact ⟨by simp [bytesOf], by simp⟩
   | some x =>
     rw [readM_some h]
     obtain ⟨nx, r, hr⟩ := (first_iff l x).1 h
     have hfl := frame_len x
     have e : l.drop (frameOf x).length = r := by rw [← hr]; exact List.drop_left
     rw [e]
     have hlen : l.length = (frameOf x).length + r.length := by rw [← hr]; simp
     obtain ⟨h1, h2⟩ := ih r.length (by omega) r rfl
     refine ⟨?_, fun y hy => ?_⟩
     · obtain ⟨s, hs⟩ := h1
       exact ⟨s, by
         show frameOf x ++ bytesOf (readM r) ++ s = l
         rw [List.append_assoc, hs, hr]⟩
     · rcases List.mem_cons.1 hy with rfl | hy
       · exact nx
       · exact h2 y hy
theorem first_frame {x : ActS} (h : noted x = true) (r : List Nat) : first? (frameOf x ++ r) = some x := (first_iff _ x).2 ⟨h, r, rfl⟩
theorem first_cut {x : ActS} (h : noted x = true) {l : List Nat} (hl : l <+: frameOf x) (hlt : l.length < (frameOf x).length) : first? l = none := by
 rw [first_none]
 rintro y ⟨ny, s, hs⟩
 obtain ⟨r, hr⟩ := hl
 rw [← hs] at hr
 have h1 : (bodyOf y).length = (bodyOf x).length := by
   simp only [frameOf, List.cons_append, List.cons.injEq] at hr
   exact hr.1
 have h2 := frame_len x
 have h3 := frame_len y
 have h4 : l.length = (frameOf y).length + s.length := by rw [← hs]; simp
 omega
theorem readM_frame {x : ActS} (h : noted x = true) (r : List Nat) : readM (frameOf x ++ r) = x :: readM r := by
 rw [readM_some (first_frame h r)]
 congr 2
 exact List.drop_left
theorem readM_all : ∀ (xs : List ActS), (∀ x ∈ xs, noted x = true) → ∀ l, (∀ y, ¬ Stands y l) → readM (bytesOf xs ++ l) = xs
 | [], _, l, hl => by simpa [bytesOf] using readM_none ((first_none l).2 hl)
 | x :: r, h, l, hl => by
   have e : bytesOf (x :: r) ++ l = frameOf x ++ (bytesOf r ++ l) := by simp [bytesOf]
   rw [e, readM_frame (h x (by simp)), readM_all r (fun y hy => h y (by simp [hy])) l hl]
theorem readM_self {xs : List ActS} (h : ∀ x ∈ xs, noted x = true) : readM (bytesOf xs) = xs := by
 have := readM_all xs h [] (fun y hy => by
   have h1 : (frameOf y).length ≤ 0 := hy.2.length_le
   have := frame_len y
   omega)
 rwa [List.append_nil] at this
end Go.Proofs.Ytmkboljfbmlebab
namespace Go.Proofs.Ytmkboljfbmlebab
open Go.RowKit
set_option linter.unusedSimpArgs false
set_option linter.unusedVariables false
def bs (l : List Nat) : ByteArray := ⟨(l.map UInt8.ofNat).toArray⟩
abbrev S (l : List Nat) : Value := .string (bs l)
abbrev U8 (n : Int) : Value := .int .u8 n
def Byt (l : List Nat) : Prop := ∀ b ∈ l, b < 256
theorem bs_size (l : List Nat) : (bs l).size = l.length := by simp [bs, ByteArray.size]
theorem bs_append (l m : List Nat) : bs (l ++ m) = bs l ++ bs m := by
 apply ByteArray.ext
 simp [bs, ByteArray.data_append]
theorem bs_toList (l : List Nat) : (bs l).toList = l.map UInt8.ofNat := by unfold bs; rw [ByteArray.toList_mk]
theorem u8_inj {a b : Nat} (ha : a < 256) (hb : b < 256) (h : UInt8.ofNat a = UInt8.ofNat b) : a = b := by
 have := congrArg UInt8.toNat h
 simp [UInt8.toNat_ofNat] at this
 omega
theorem map_u8_inj : ∀ {l m : List Nat}, Byt l → Byt m → l.map UInt8.ofNat = m.map UInt8.ofNat → l = m
 | [], [], _, _, _ => rfl
 | [], _ :: _, _, _, h => by simp at h
 | _ :: _, [], _, _, h => by simp at h
 | a :: l, b :: m, hl, hm, h => by
   simp only [List.map_cons, List.cons.injEq] at h
   rw [u8_inj (hl a (by simp)) (hm b (by simp)) h.1, map_u8_inj (fun x hx => hl x (by simp [hx])) (fun x hx => hm x (by simp [hx])) h.2]
theorem bs_get {l : List Nat} {i b : Nat} (h : l[i]? = some b) (hb : b < 256) : ∃ hi : i < (bs l).size, ((bs l)[i]'hi).toNat = b := by
 obtain ⟨hi, e⟩ := List.getElem?_eq_some_iff.1 h
 refine ⟨by rw [bs_size]; exact hi, ?_⟩
 show ((l.map UInt8.ofNat).toArray[i]'(by simpa using hi)).toNat = b
 simp [e]
 omega
theorem bs_extract (l : List Nat) (i j : Nat) : (bs l).extract i j = bs ((l.take j).drop i) := by
 apply ByteArray.ext
 simp only [ByteArray.data_extract, bs]
 apply Array.ext_getElem?
 intro k
 simp only [Array.getElem?_extract, List.size_toArray, List.length_map, List.getElem?_toArray, List.getElem?_map, List.getElem?_drop, List.getElem?_take]
 by_cases h1 : k < min j l.length - i
 · rw [if_pos h1, if_pos (by omega)]
 · rw [if_neg h1]
   by_cases h2 : i + k < j
   · rw [if_pos h2, List.getElem?_eq_none (by omega)]; rfl
   · rw [if_neg h2]; rfl
theorem Byt.drop {l : List Nat} (h : Byt l) (n : Nat) : Byt (l.drop n) := fun b hb => h b (List.mem_of_mem_drop hb)
theorem Byt.take {l : List Nat} (h : Byt l) (n : Nat) : Byt (l.take n) := fun b hb => h b (List.mem_of_mem_take hb)
theorem Byt.append {l m : List Nat} (h : Byt l) (h' : Byt m) : Byt (l ++ m) := fun b hb => (List.mem_append.1 hb).elim (h b) (h' b)
theorem byt_nil : Byt [] := fun b hb => by cases hb
def strB (P : Program) (T : TypeId) : Bool := match P.underlying T with
 | some .string => true
 | _ => false
theorem strB_spec {P : Program} {T : TypeId} (h : strB P T = true) : P.underlying T = some .string := by
 unfold strB at h
 split at h
 · assumption
 · cases h
def bytesB (P : Program) (T : TypeId) : Bool := match P.underlying T with
 | some (.slice e) => (match P.underlying e with | some (.int .u8) => true | _ => false)
 | _ => false
theorem bytesB_spec {P : Program} {T : TypeId} (h : bytesB P T = true) : ∃ e, P.underlying T = some (.slice e) ∧ P.underlying e = some (.int .u8) := by
 unfold bytesB at h
 split at h
 · rename_i e hu
   split at h
   · rename_i he; exact ⟨e, hu, he⟩
   · cases h
 · cases h
def kindB (P : Program) (S T : TypeId) (k : IntKind) : Bool := (P.underlying S).isSome && (match P.underlying T with | some (.int k') => decide (k' = k) | _ => false)
section
variable {P : Program} {f : Nat → Value} {C : World → Prop} {dst : Option Nat} {ty : TypeId} {pos : String} {af : Array Edge} {gd : Option (Nat × Bool)}
theorem v_convK {x : Operand} {Sx T : TypeId} {k k' : IntKind} {n : Int} (hT : kindB P Sx T k = true) (hx : ev f x = .int k' n) : Val P f C ⟨dst, .convert Sx T x, ty, pos, af, gd⟩ (.int k (k.wrap n)) := by
 refine ⟨fun w _ => ?_⟩
 unfold kindB at hT
 simp only [Bool.and_eq_true] at hT
 obtain ⟨h1, h2⟩ := hT
 split at h2
 · rename_i k2 hu
   have e := of_decide_eq_true h2
   subst e
   have hk : P.intKind T = k2 := by simp [Program.intKind, hu]
   have := run_convert_int (P := P) w Sx T k' n h1 (by rw [hk]; exact hu)
   simp [execOp, hx, this, hk]
 · cases h2
theorem u8_wrap {n : Int} (h : 0 ≤ n ∧ n < 256) : IntKind.u8.wrap n = n := by
 simp [IntKind.wrap, IntKind.bits, IntKind.signed]; omega
theorem v_toU8 {x : Operand} {Sx T : TypeId} {n : Int} (hT : kindB P Sx T .u8 = true) (hx : ev f x = I n) (h : 0 ≤ n ∧ n < 256) : Val P f C ⟨dst, .convert Sx T x, ty, pos, af, gd⟩ (U8 n) := by
 have := v_convK (P := P) (f := f) (C := C) (dst := dst) (ty := ty) (pos := pos) (af := af) (gd := gd) (k := .u8) hT hx
 rwa [u8_wrap h] at this
theorem v_ofU8 {x : Operand} {Sx T : TypeId} {n : Int} (hT : kindB P Sx T .i64 = true) (hx : ev f x = U8 n) (h : 0 ≤ n ∧ n < 256) : Val P f C ⟨dst, .convert Sx T x, ty, pos, af, gd⟩ (I n) := by
 have := v_convK (P := P) (f := f) (C := C) (dst := dst) (ty := ty) (pos := pos) (af := af) (gd := gd) (k := .i64) hT hx
 rwa [show IntKind.i64.wrap n = n from wr_in (by omega) (by omega)] at this
theorem v_strAdd {x y : Operand} {t t' : TypeId} {a b : List Nat} (hx : ev f x = S a) (hy : ev f y = S b) (h : a.length + b.length ≤ 9223372036854775807) : Val P f C ⟨dst, .binOp .add t x y t', ty, pos, af, gd⟩ (S (a ++ b)) := by
 refine ⟨fun w _ => ?_⟩
 have := run_string_add_sum (P := P) (w := w) (bs a) (bs b) (by rw [bs_size, bs_size]; exact h)
 rw [← bs_append] at this
 simp [execOp, hx, hy, eqGuard, binOp, this]
theorem v_strEq {x y : Operand} {t t' : TypeId} {a b : List Nat} (hx : ev f x = S a) (hy : ev f y = S b) (ha : Byt a) (hb : Byt b) : Val P f C ⟨dst, .binOp .eql t x y t', ty, pos, af, gd⟩ (.bool (decide (a = b))) := by
 refine ⟨fun w _ => ?_⟩
 have e : ((bs a).toList == (bs b).toList) = decide (a = b) := by
   rw [bs_toList, bs_toList, Bool.eq_iff_iff, beq_iff_eq, decide_eq_true_iff]
   exact ⟨map_u8_inj ha hb, fun h => by rw [h]⟩
 simp [execOp, hx, hy, eqGuard, binOp, Op.stringOp, e]
theorem v_strNe {x y : Operand} {t t' : TypeId} {a b : List Nat} (hx : ev f x = S a) (hy : ev f y = S b) (ha : Byt a) (hb : Byt b) : Val P f C ⟨dst, .binOp .neq t x y t', ty, pos, af, gd⟩ (.bool (!decide (a = b))) := by
 refine ⟨fun w _ => ?_⟩
 have e : ((bs a).toList == (bs b).toList) = decide (a = b) := by
   rw [bs_toList, bs_toList, Bool.eq_iff_iff, beq_iff_eq, decide_eq_true_iff]
   exact ⟨map_u8_inj ha hb, fun h => by rw [h]⟩
 simp [execOp, hx, hy, eqGuard, binOp, Op.stringOp, e]
theorem v_strLen {x : Operand} {T : TypeId} {ats : Array TypeId} {a : List Nat} (hT : strB P T = true) (ha : ats = #[T]) (hx : ev f x = S a) : Val P f C ⟨dst, .call ⟨.builtin .len, #[x], ats⟩, ty, pos, af, gd⟩ (I a.length) := by
 refine ⟨fun w _ => ?_⟩
 subst ha
 have := run_len_string (P := P) w T ty (bs a) (strB_spec hT)
 simp [execOp, resolve, invoke, builtin, hx, this, bs_size, goInt]
theorem v_strIdx {x y : Operand} {T : TypeId} {k : IntKind} {a : List Nat} {i : Int} {b : Nat} (hT : strB P T = true) (hx : ev f x = S a) (hy : ev f y = .int k i) (h0 : 0 ≤ i) (hi : a[i.toNat]? = some b) (hb : b < 256) : Val P f C ⟨dst, .index T x y, ty, pos, af, gd⟩ (U8 b) := by
 refine ⟨fun w _ => ?_⟩
 obtain ⟨hlt, e⟩ := bs_get hi hb
 have := run_index_string (P := P) w T (bs a) k i (strB_spec hT)
 rw [dif_pos ⟨h0, by omega⟩] at this
 simp [execOp, hx, hy, this, e]
theorem v_strLo {x y : Operand} {T : TypeId} {k : IntKind} {a : List Nat} {i : Int} (hT : strB P T = true) (hx : ev f x = S a) (hy : ev f y = .int k i) (hi : 0 ≤ i ∧ i ≤ a.length) : Val P f C ⟨dst, .slice T x (some y) none none, ty, pos, af, gd⟩ (S (a.drop i.toNat)) := by
 refine ⟨fun w _ => ?_⟩
 have := run_slice_string_from_if (P := P) w T (bs a) k i (strB_spec hT)
 rw [if_pos ⟨hi.1, by rw [bs_size]; exact hi.2⟩, bs_size, bs_extract, List.take_of_length_le (Nat.le_refl _)] at this
 simp [execOp, hx, hy, Instr.sliceAt, run_underlying (strB_spec hT), this]
theorem v_strHi {x y : Operand} {T : TypeId} {k : IntKind} {a : List Nat} {i : Int} (hT : strB P T = true) (hx : ev f x = S a) (hy : ev f y = .int k i) (hi : 0 ≤ i ∧ i ≤ a.length) : Val P f C ⟨dst, .slice T x none (some y) none, ty, pos, af, gd⟩ (S (a.take i.toNat)) := by
 refine ⟨fun w _ => ?_⟩
 have := run_slice_string_to_if (P := P) w T (bs a) k i (strB_spec hT)
 rw [if_pos ⟨hi.1, by rw [bs_size]; exact hi.2⟩, bs_extract, List.drop_zero] at this
 simp [execOp, hx, hy, Instr.sliceAt, run_underlying (strB_spec hT), this]
theorem run_strOf {w : World} {Sx T : TypeId} {b o c : Nat} {l : List Nat} (hS : bytesB P Sx = true) (hT : strB P T = true) (hb : Byt l) (hc : ∀ j n : Nat, l[j]? = some n → w.cell? ⟨b, o + j, none⟩ = some (U8 n)) :
   (convert Sx T (.slice (some ⟨b, o, none⟩) l.length c)).run P w = .ok (S l) w := by
 obtain ⟨e, h1, h2⟩ := bytesB_spec hS
 have := run_convert_bytes_back (P := P) w Sx T e ⟨b, o, none⟩ c (l.map UInt8.ofNat) h1 h2 (strB_spec hT) (fun j hj => by
   have hj' : j < l.length := by simpa using hj
   rw [add_off, hc j l[j] (by simp [hj'])]
   have := hb l[j] (List.getElem_mem hj')
   simp
   omega)
 rw [List.length_map] at this
 exact this
variable {ops : Array Oper} {K : (Nat → Value) → World → Prop} {rest : List Oper} {d : Nat} {w0 : World} {F : Addr → Value → Prop} {L : List (Nat × Obj)}
theorem v_strOf {x : Operand} {Sx T b c t : Nat} {fr : Nat × Nat} {cs : Array Value} {n : Nat} {l : List Nat} (hS : bytesB P Sx = true) (hT : strB P T = true) (hx : ev f x = .slice (some ⟨b, 0, none⟩) n c) (hn : n = l.length) (hl : Look L b (.cells cs t fr)) (hb : Byt l) (hc : ∀ j m : Nat, l[j]? = some m → cs[j]? = some (U8 m)) :
   Val P f (Has w0 F L) ⟨dst, .convert Sx T x, ty, pos, af, gd⟩ (S l) := by
 refine ⟨fun w hw => ?_⟩
 subst hn
 have := run_strOf (P := P) (w := w) (b := b) (o := 0) (c := c) hS hT hb (fun j m hj => by rw [Nat.zero_add, cell_has hw hl]; exact hc j m hj)
 simp [execOp, hx, this]
theorem n_doneT {fn : Func} {n t t2 : Nat} {v : Value} (hr : fn.results = #[.tmp t, .tmp t2]) (ht : t < n) (ht2 : t2 < n) (hv : .tuple #[f t, f t2] = v) :
   nC (retQ P fn n (fun v' w' => v' = v ∧ Bel w0.heap.size w0 w')) .ret f (Has w0 F L) := fun w hw => by
 refine ⟨.tuple #[f t, f t2], ?_, hv, hw.1⟩
 have e : (Fa n f).tmps[t]?.getD undef = f t := by simp [Fa, ht]
 have e2 : (Fa n f).tmps[t2]?.getD undef = f t2 := by simp [Fa, ht2]
 simp [results, hr, e, e2]
theorem n_doneTF {fn : Func} {n t t2 : Nat} {R : (Addr → Value → Prop) → Value → Prop} (hr : fn.results = #[.tmp t, .tmp t2]) (ht : t < n) (ht2 : t2 < n) (hv : ∀ w, Has w0 F L w → R (Fresh w0 w) (.tuple #[f t, f t2])) :
   nC (retQ P fn n (fun v w' => Bel w0.heap.size w0 w' ∧ R (Fresh w0 w') v)) .ret f (Has w0 F L) := fun w hw => by
 refine ⟨.tuple #[f t, f t2], ?_, hw.1, hv w hw⟩
 have e : (Fa n f).tmps[t]?.getD undef = f t := by simp [Fa, ht]
 have e2 : (Fa n f).tmps[t2]?.getD undef = f t2 := by simp [Fa, ht2]
 simp [results, hr, e, e2]
end
def ActS.cells (x : ActS) : Array Value := #[I x.kind, I x.a, I x.b, I x.c, I x.n]
theorem ActS.size (x : ActS) : x.cells.size = 5 := rfl
theorem ActS.all1 (x : ActS) : x.cells.all (·.oneCell') = true := by simp [ActS.cells, Value.oneCell']
theorem fill_one {v : Value} {m : Nat} (hs : v.cells.size = m) (z : Array Value) (hz : z.size = m) : Instr.fill (fun i => some (i * m, m)) ((Array.range (1 * m)).map (z[· % z.size]!)) [(0, v)] = some v.cells := by
 have hsz : ((Array.range (1 * m)).map (z[· % z.size]!)).size = m := by simp
 generalize (Array.range (1 * m)).map (z[· % z.size]!) = cs at hsz
 simp only [Instr.fill, Nat.zero_mul, Nat.zero_add]
 rw [if_neg (by simp [hs, hsz])]
 congr 1
 have key : ∀ (l : List Value) (k : Nat) (a : Array Value), ((l.zipIdx k).foldl (fun cs (p : Value × Nat) => cs.setIfInBounds p.2 p.1) a).size = a.size ∧ ∀ j, ((l.zipIdx k).foldl (fun cs (p : Value × Nat) => cs.setIfInBounds p.2 p.1) a)[j]? = if k ≤ j ∧ j < k + l.length ∧ j < a.size then l[j - k]? else a[j]? := by
   intro l
   induction l with
   | nil => intro k a; exact ⟨rfl, fun j => by rw [if_neg (by simp; omega)]; rfl⟩
   | cons x r ih =>
     intro k a
     simp only [List.zipIdx_cons, List.foldl_cons]
     obtain ⟨h1, h2⟩ := ih (k + 1) (a.setIfInBounds k x)
     refine ⟨by rw [h1]; simp, fun j => ?_⟩
     rw [h2 j]
     simp only [Array.size_setIfInBounds, List.length_cons]
     by_cases hj : j = k
     · subst hj
       rw [if_neg (by omega)]
       by_cases hlt : j < a.size
       · rw [if_pos ⟨by omega, by omega, hlt⟩]; simp [hlt]
       · rw [if_neg (by omega)]; simp [hlt]
     · by_cases hc : k + 1 ≤ j ∧ j < k + 1 + r.length ∧ j < a.size
       · rw [if_pos hc, if_pos ⟨by omega, by omega, hc.2.2⟩, show j - k = (j - (k + 1)) + 1 by omega, List.getElem?_cons_succ]
       · rw [if_neg hc, if_neg (by omega), Array.getElem?_setIfInBounds_ne (Ne.symm hj)]
 have := key v.cells.toList 0 cs
 have e : v.cells.zipIdx.foldl (fun cs (p : Value × Nat) => cs.setIfInBounds (0 + p.2) p.1) cs = (v.cells.toList.zipIdx 0).foldl (fun cs (p : Value × Nat) => cs.setIfInBounds p.2 p.1) cs := by
   rw [← Array.foldl_toList]
   simp
 simp only [Nat.zero_add] at e
 rw [e]
 apply Array.ext_getElem?
 intro j
 rw [this.2 j]
 by_cases hj : j < m
 · rw [if_pos ⟨by omega, by simp [hs]; exact hj, by omega⟩]; simp
 · rw [if_neg (by simp [hs]; omega), Array.getElem?_eq_none (by omega), Array.getElem?_eq_none (by omega)]
end Go.Proofs.Ytmkboljfbmlebab
namespace Go.Proofs.Ytmkboljfbmlebab
open Go.RowKit
set_option linter.unusedSimpArgs false
set_option linter.unusedVariables false
theorem sum_snoc (l : List Nat) (b : Nat) : sumOf (l ++ [b]) = ((sumOf l).1 + b, (sumOf l).2 + ((sumOf l).1 + b)) := by simp [sumOf, List.foldl_append]
theorem sum_step {l : List Nat} {k b : Nat} (h : l[k]? = some b) : sumOf (l.take (k + 1)) = ((sumOf (l.take k)).1 + b, (sumOf (l.take k)).2 + ((sumOf (l.take k)).1 + b)) := by
 rw [List.take_add_one, h]
 exact sum_snoc _ b
theorem sum_bound {l : List Nat} (hb : Byt l) : ∀ k, (sumOf (l.take k)).1 ≤ 1 + 255 * k ∧ (sumOf (l.take k)).2 ≤ k * (1 + 255 * k)
 | 0 => by simp [sumOf]
 | k + 1 => by
   have ih := sum_bound hb k
   cases h : l[k]? with
   | none =>
     rw [List.take_add_one, h]
     simp only [Option.toList_none, List.append_nil]
     refine ⟨by omega, Nat.le_trans ih.2 ?_⟩
     exact Nat.mul_le_mul (by omega) (by omega)
   | some b =>
     have hb' := hb b (List.mem_of_getElem? h)
     rw [sum_step h]
     refine ⟨by simp only; omega, ?_⟩
     simp only
     have e : (k + 1) * (1 + 255 * (k + 1)) = k * (1 + 255 * k) + k * 255 + (1 + 255 * (k + 1)) := by
       rw [Nat.add_mul, Nat.one_mul, show 1 + 255 * (k + 1) = (1 + 255 * k) + 255 by omega, Nat.mul_add]
     omega
theorem tmod_nat (a b : Nat) : ((a : Int)).tmod (b : Int) = ((a % b : Nat) : Int) := by rw [Int.tmod_eq_emod_of_nonneg (by omega)]; omega
theorem tdiv_nat (a b : Nat) : ((a : Int)).tdiv (b : Int) = ((a / b : Nat) : Int) := by rw [Int.tdiv_eq_ediv_of_nonneg (by omega)]; omega
theorem zig_neg {n : Int} (h : n < 0) : -2 * n - 1 = ((zig n : Nat) : Int) := by unfold zig; rw [if_pos h]; omega
theorem zig_pos {n : Int} (h : ¬ n < 0) : 2 * n = ((zig n : Nat) : Int) := by unfold zig; rw [if_neg h]; omega
theorem notedI_iff {n : Int} : notedI n = true ↔ -1073741824 ≤ n ∧ n ≤ 1073741824 := by simp [notedI]
theorem noted_all {x : ActS} (h : noted x = true) : notedI x.kind = true ∧ notedI x.a = true ∧ notedI x.b = true ∧ notedI x.c = true ∧ notedI x.n = true := by
 simp only [noted, Bool.and_eq_true] at h
 exact ⟨h.1.1.1.1, h.1.1.1.2, h.1.1.2, h.1.2, h.2⟩
theorem digs_len5 {n : Int} (h : notedI n = true) : (digs (zig n)).length ≤ 5 := digs_len 4 _ (zig_lt h)
end Go.Proofs.Ytmkboljfbmlebab
namespace Go.Proofs.Ytmkboljfbmlebab
open Go.RowKit
set_option linter.unusedSimpArgs false
set_option linter.unusedVariables false
def fText (a : ActS) : List Nat := bif noted a then frameOf a else []
def fErr (a : ActS) : Int := bif noted a then 0 else 3
def frameR (a : ActS) : Value := .tuple #[S (fText a), I (fErr a)]
theorem frameR_yes {a : ActS} (h : noted a = true) : frameR a = .tuple #[S (frameOf a), I 0] := by simp [frameR, fText, fErr, h]
theorem frameR_no {a : ActS} (h : noted a = false) : frameR a = .tuple #[S [], I 3] := by simp [frameR, fText, fErr, h]
theorem fErr_ok {a : ActS} (h : fErr a = 0) : noted a = true := by
 cases hn : noted a
 · simp [fErr, hn] at h
 · rfl
theorem fText_byt (a : ActS) : Byt (fText a) := by
 unfold fText
 cases hn : noted a
 · exact byt_nil
 · exact frame_byte hn
structure Dig (t : List Nat) (j u : Nat) : Prop where
 j6 : j ≤ 6
 ub : u < 128 ^ j
 jl : j ≤ t.length
 rel : undig 7 t = (undig (7 - j) (t.drop j)).map fun p => (u + 128 ^ j * p.1, p.2)
theorem drop_cons {t : List Nat} {j b : Nat} (h : t[j]? = some b) : t.drop j = b :: t.drop (j + 1) := by
 obtain ⟨hj, e⟩ := List.getElem?_eq_some_iff.1 h
 rw [List.drop_eq_getElem_cons hj, e]
theorem Dig.step {t : List Nat} {j u b : Nat} (o : Dig t j u) (hb : t[j]? = some b) (h1 : 128 ≤ b) (h2 : b < 256) (hj : j < 6) : Dig t (j + 1) (u + (b - 128) * 128 ^ j) := by
 refine ⟨by omega, ?_, (List.getElem?_eq_some_iff.1 hb).1, ?_⟩
 · have := o.ub
   have h3 : (b - 128) * 128 ^ j ≤ 127 * 128 ^ j := Nat.mul_le_mul_right _ (by omega)
   rw [Nat.pow_succ]; omega
 · rw [o.rel, drop_cons hb, show 7 - j = (7 - (j + 1)) + 1 by omega, undig, if_neg (by omega)]
   cases undig (7 - (j + 1)) (t.drop (j + 1)) with
   | none => rfl
   | some p =>
     simp only [Option.map_some]
     congr 2
     rw [Nat.mul_add, Nat.pow_succ, ← Nat.mul_assoc, Nat.mul_comm (128 ^ j) (b - 128), Nat.add_assoc]
theorem Dig.stop {t : List Nat} {j u : Nat} (o : Dig t j u) (h : t.length ≤ j) : undig 7 t = none := by
 rw [o.rel, List.drop_eq_nil_of_le h, show 7 - j = (6 - j) + 1 by have := o.j6; omega]
 rfl
theorem Dig.last {t : List Nat} {j u b : Nat} (o : Dig t j u) (hb : t[j]? = some b) (h1 : b < 128) : undig 7 t = some (u + b * 128 ^ j, t.drop (j + 1)) ∧ u + b * 128 ^ j < 128 ^ 7 := by
 have h6 := o.j6
 refine ⟨?_, ?_⟩
 · rw [o.rel, drop_cons hb, show 7 - j = (6 - j) + 1 by omega, undig, if_pos h1, Option.map_some, Nat.mul_comm (128 ^ j) b]
 · have := o.ub
   have h3 : b * 128 ^ j ≤ 127 * 128 ^ j := Nat.mul_le_mul_right _ (by omega)
   have h4 : 128 ^ (j + 1) ≤ 128 ^ 7 := Nat.pow_le_pow_right (by omega) (by omega)
   rw [Nat.pow_succ] at h4
   omega
def nums : Nat → List Nat → Option (List Nat × List Nat)
 | 0, l => some ([], l)
 | k + 1, l => match nums k l with
   | none => none
   | some (us, t) => (undig 7 t).map fun p => (us ++ [p.1], p.2)
theorem nums_step {k : Nat} {l us t : List Nat} (h : nums k l = some (us, t)) : nums (k + 1) l = (undig 7 t).map fun p => (us ++ [p.1], p.2) := by simp only [nums, h]
def actOf (us : List Nat) : ActS := ⟨zag (us.getD 0 0), zag (us.getD 1 0), zag (us.getD 2 0), zag (us.getD 3 0), zag (us.getD 4 0)⟩
theorem actOf_zig (x : ActS) : actOf [zig x.kind, zig x.a, zig x.b, zig x.c, zig x.n] = x := by simp [actOf, zag_zig]
def vnum (us : List Nat) (i : Nat) : Int := if i < us.length then zag (us.getD i 0) else 0
def vrow (us : List Nat) : Array Value := Array.ofFn (n := 5) fun i => I (vnum us i.val)
theorem vrow_size (us : List Nat) : (vrow us).size = 5 := by simp [vrow]
theorem vrow_at (us : List Nat) (i : Nat) (hi : i < 5) : (vrow us)[0 + ((i : Nat) : Int).toNat * 1]? = some (I (vnum us i)) := by
 have e : 0 + ((i : Nat) : Int).toNat * 1 = i := by omega
 rw [e]
 simp [vrow, hi]
theorem vrow_set {us : List Nat} {u k : Nat} (hk : us.length = k) (h5 : k < 5) : (vrow us).setIfInBounds (0 + ((k : Nat) : Int).toNat * 1) (I (zag u)) = vrow (us ++ [u]) := by
 have e : 0 + ((k : Nat) : Int).toNat * 1 = k := by omega
 rw [e]
 unfold vrow
 exact setq (fun i => I (vnum us i)) (fun i => I (vnum (us ++ [u]) i)) (fun i hi => by
   unfold vnum
   rw [List.length_append]
   simp only [List.length_cons, List.length_nil]
   by_cases h : i = k
   · subst h
     rw [if_pos (by omega), if_pos rfl]
     congr 2
     rw [List.getD_eq_getElem?_getD, List.getElem?_append_right (by omega), hk]
     simp
   · rw [if_neg h]
     by_cases h2 : i < us.length
     · rw [if_pos (by omega), if_pos h2]
       congr 2
       rw [List.getD_eq_getElem?_getD, List.getD_eq_getElem?_getD, List.getElem?_append_left h2]
     · rw [if_neg (by omega), if_neg h2])
def act5 (us : List Nat) : ActS := ⟨vnum us 0, vnum us 1, vnum us 2, vnum us 3, vnum us 4⟩
theorem act5_of {us : List Nat} (h : us.length = 5) : act5 us = actOf us := by simp [act5, actOf, vnum, h]
structure PG where
 k : Nat
 us : List Nat
 pos : Nat
structure PgOk (k0 : Nat) (B : List Nat) (t : PG) : Prop where
 k5 : t.k ≤ 5
 ul : t.us.length = t.k
 p1 : 1 ≤ t.pos ∧ t.pos ≤ k0 + 1
 run : nums t.k B = some (t.us, B.drop (t.pos - 1))
theorem PgOk.next {k0 : Nat} {B : List Nat} {t : PG} (o : PgOk k0 B t) (hB : B.length = k0) (hk : t.k < 5) {j u b : Nat} (hd : Dig (B.drop (t.pos - 1)) j u) (hb : (B.drop (t.pos - 1))[j]? = some b) (h1 : b < 128) : PgOk k0 B ⟨t.k + 1, t.us ++ [u + b * 128 ^ j], t.pos + j + 1⟩ := by
 have hl := (List.getElem?_eq_some_iff.1 hb).1
 rw [List.length_drop] at hl
 have hp := o.p1
 refine ⟨hk, by simp [o.ul], by simp only; omega, ?_⟩
 rw [nums_step o.run, (hd.last hb h1).1, Option.map_some, List.drop_drop, show t.pos - 1 + (j + 1) = t.pos + j + 1 - 1 by omega]
def flatA (xs : List ActS) : List Value := xs.flatMap fun x => x.cells.toList
def ActsIn (F : Addr → Value → Prop) (v : Value) (xs : List ActS) : Prop := ∃ a c, v = .slice a xs.length c ∧ xs.length ≤ c ∧ (xs = [] ∨ ∃ b o, a = some ⟨b, o, none⟩ ∧ ∀ (j : Nat) (x : ActS), xs[j]? = some x → ∀ (k : Nat) (v : Value), x.cells[k]? = some v → F ⟨b, o + j * 5 + k, none⟩ v)
theorem flatA_get : ∀ (xs : List ActS) (j : Nat) (x : ActS), xs[j]? = some x → ∀ (k : Nat) (v : Value), x.cells[k]? = some v → (flatA xs)[j * 5 + k]? = some v
 | [], j, x, h, _, _, _ => by simp at h
 | q :: r, j, x, h, k, v, hv => by
   have hk : k < 5 := by
     rcases Nat.lt_or_ge k 5 with h | h
     · exact h
     · rw [Array.getElem?_eq_none (by simpa [ActS.cells] using h)] at hv; cases hv
   have hl : q.cells.toList.length = 5 := rfl
   cases j with
   | zero =>
     simp at h; subst h
     simp only [flatA, List.flatMap_cons, Nat.zero_mul, Nat.zero_add]
     rw [List.getElem?_append_left (by rw [hl]; exact hk)]
     simpa using hv
   | succ j =>
     simp only [List.getElem?_cons_succ] at h
     simp only [flatA, List.flatMap_cons]
     rw [List.getElem?_append_right (by rw [hl]; omega), hl, show (j + 1) * 5 + k - 5 = j * 5 + k by omega]
     exact flatA_get r j x h k v hv
theorem acts_of_list {F : Addr → Value → Prop} {e : Nat} {v : Value} {xs : List ActS} {E : List (Nat × Obj)} (h : ListE e 5 v xs.length (flatA xs) E) (hk : Knows F E) : ActsIn F v xs := by
 rcases h.2 with ⟨rfl, h2, rfl⟩ | ⟨g, cap, cur, rfl, rfl, h3, h4, h5, h6⟩
 · have : xs = [] := List.eq_nil_of_length_eq_zero h2
   subst this
   exact ⟨none, 0, rfl, Nat.le_refl _, .inl rfl⟩
 · refine ⟨_, _, rfl, h3, .inr ⟨g, 0, rfl, fun j x hj k v hv => ?_⟩⟩
   rw [Nat.zero_add]
   refine hk g cur e (0, 0) (by simp) _ _ ?_
   have e1 := flatA_get xs j x hj k v hv
   rw [← h6, List.getElem?_take] at e1
   split at e1
   · simpa using e1
   · cases e1
theorem acts_mono (xs : List ActS) : Mono (fun F v => ActsIn F v xs) := by
 rintro F F' v hm ⟨a, c, h1, h2, h3⟩
 refine ⟨a, c, h1, h2, ?_⟩
 rcases h3 with h3 | ⟨b, o, h3, h4⟩
 · exact .inl h3
 · exact .inr ⟨b, o, h3, fun j x hj k v hv => hm _ _ (h4 j x hj k v hv)⟩
def ReadF (l : List Nat) (F : Addr → Value → Prop) (v : Value) : Prop := ∃ v1, v = .tuple #[v1, I (bytesOf (readM l)).length] ∧ ActsIn F v1 (readM l)
theorem readF_mono (l : List Nat) : Mono (ReadF l) := by
 rintro F F' v hm ⟨v1, h1, h2⟩
 exact ⟨v1, h1, acts_mono _ _ _ _ hm h2⟩
structure RB where
 xs : List ActS
 v : Value
 E : List (Nat × Obj)
structure RbOk (e : Nat) (l : List Nat) (t : RB) : Prop where
 list : ListE e 5 t.v t.xs.length (flatA t.xs) t.E
 front : (bytesOf t.xs).length ≤ l.length
 read : readM l = t.xs ++ readM (l.drop (bytesOf t.xs).length)
 eight : t.xs.length * 3 ≤ (bytesOf t.xs).length
theorem RbOk.done {e : Nat} {l : List Nat} {t : RB} (o : RbOk e l t) (h : first? (l.drop (bytesOf t.xs).length) = none) {F : Addr → Value → Prop} (hk : Knows F t.E) : ReadF l F (.tuple #[t.v, I (bytesOf t.xs).length]) := by
 have e1 := o.read
 rw [readM_none h, List.append_nil] at e1
 unfold ReadF
 rw [e1]
 exact ⟨_, rfl, acts_of_list o.list hk⟩
theorem RbOk.next {e : Nat} {l : List Nat} {t : RB} (o : RbOk e l t) {x : ActS} (h : first? (l.drop (bytesOf t.xs).length) = some x) {v' : Value} {E' : List (Nat × Obj)} (hl : ListE e 5 v' (t.xs.length + 1) (flatA t.xs ++ x.cells.toList) E') : RbOk e l ⟨t.xs ++ [x], v', E'⟩ ∧ (bytesOf (t.xs ++ [x])).length = (bytesOf t.xs).length + (bodyOf x).length + 3 := by
 have hb : bytesOf (t.xs ++ [x]) = bytesOf t.xs ++ frameOf x := by simp [bytesOf]
 have hfl := frame_len x
 have hs := ((first_iff _ _).1 h).2.length_le
 rw [List.length_drop] at hs
 have hfr := o.front
 have h8 := o.eight
 refine ⟨⟨by simpa [flatA] using hl, ?_, ?_, ?_⟩, by rw [hb, List.length_append]; omega⟩
 · simp only; rw [hb, List.length_append]; omega
 · simp only
   rw [o.read, readM_some h, hb, List.length_append, List.append_assoc, List.drop_drop]
   rfl
 · simp only; rw [hb, List.length_append, List.length_append]; simp only [List.length_cons, List.length_nil]; omega
end Go.Proofs.Ytmkboljfbmlebab
namespace Go.Proofs.Ytmkboljfbmlebab
open Go.RowKit
set_option linter.unusedSimpArgs false
set_option linter.unusedVariables false
def GoodPs (ps : List PayS) : Prop := ∀ p ∈ ps, goodPayB p = true
theorem goB_all {nx : Int} : ∀ (ps : List PayS) (seen : List Int), goB nx seen ps = true → GoodPs ps ∧ (∀ p ∈ ps, p.seq ∉ seen) ∧ ∀ (i j : Nat) (p q : PayS), ps[i]? = some p → ps[j]? = some q → p.seq = q.seq → i = j
 | [], seen, _ => ⟨fun p hp => (by cases hp), fun p hp => (by cases hp), fun i j p q h => (by simp at h)⟩
 | x :: r, seen, h => by
   simp only [goB] at h
   cases hb : (!goodPayB x || decide (nx ≤ x.seq) || decide (x.seq ∈ seen))
   · rw [hb] at h
     simp only [cond_false] at h
     simp only [Bool.or_eq_false_iff, Bool.not_eq_false', decide_eq_false_iff_not] at hb
     obtain ⟨h1, h2, h3⟩ := goB_all r _ h
     have hx : ∀ p ∈ r, p.seq ≠ x.seq := fun p hp e => h2 p hp (by rw [e]; simp)
     refine ⟨fun p hp => ?_, fun p hp => ?_, fun i j p q hi hj e => ?_⟩
     · rcases List.mem_cons.1 hp with rfl | hp
       · exact hb.1.1
       · exact h1 p hp
     · rcases List.mem_cons.1 hp with rfl | hp
       · exact hb.2
       · exact fun hm => h2 p hp (by simp [hm])
     · cases i with
       | zero =>
         cases j with
         | zero => rfl
         | succ j =>
           simp at hi hj; subst hi
           exact absurd e.symm (hx q (List.mem_of_getElem? hj))
       | succ i =>
         cases j with
         | zero =>
           simp at hi hj; subst hj
           exact absurd e (hx p (List.mem_of_getElem? hi))
         | succ j =>
           simp at hi hj
           rw [h3 i j p q hi hj e]
   · rw [hb] at h; cases h
theorem good_pays {h : H} {ps : List PayS} (hg : goodB h ps = true) : GoodPs ps ∧ SeqsApart ps ∧ ps.length ≤ 24 := by
 unfold goodB goodPaysB at hg
 simp only [Bool.and_eq_true] at hg
 obtain ⟨⟨⟨⟨_, h1⟩, _⟩, _⟩, _⟩ := hg
 cases hl : decide (24 < (ps.length : Int))
 · rw [hl] at h1
   simp only [cond_false] at h1
   obtain ⟨e1, _, e3⟩ := goB_all ps [] h1
   have := of_decide_eq_false hl
   exact ⟨e1, e3, by omega⟩
 · rw [hl] at h1; cases h1
structure Room (k : Int) (h : H) : Prop where
 has : ∀ i : Int, 0 ≤ i ∧ i < 4 → -1099478073344 - k * 1000000 ≤ h.has i ∧ h.has i ≤ 1099478073344 + k * 1000000
 cred : ∀ i : Int, 0 ≤ i ∧ i < 4 → 0 ≤ h.cred i ∧ h.cred i ≤ 1000000
 diag : ∀ i : Int, 0 ≤ i ∧ i < 4 → h.sent i i = 0
 sent : ∀ i j : Int, 0 ≤ i ∧ i < 4 → 0 ≤ j ∧ j < 4 → 0 ≤ h.sent i j ∧ h.sent i j ≤ 1099478073344 + k * 1000000
 lim : ∀ i j : Int, 0 ≤ i ∧ i < 4 → 0 ≤ j ∧ j < 4 → -1 ≤ h.lim i j ∧ h.lim i j ≤ 1000000
theorem Room.good {k : Int} {h : H} (r : Room k h) (hk : k ≤ 33) : GoodH h :=
 ⟨fun i hi => by have := r.has i hi; omega, r.cred, r.diag, fun i j hi hj => by have := r.sent i j hi hj; omega, r.lim⟩
theorem Room.move {k : Int} {h : H} (r : Room k h) (h0 : 0 ≤ k) (hk : k ≤ 32) {a b n : Int} (ht : goodTransferB a b n = true) : Room (k + 1) (moveM h a b n) := by
 obtain ⟨ha, hb, hne, h1, h2⟩ := transfer_spec ht
 rw [move_eq (r.good (by omega)) ht]
 refine ⟨fun i hi => ?_, r.cred, fun i hi => ?_, fun i j hi hj => ?_, r.lim⟩
 · have e1 := r.has i hi
   simp only [up1]
   split
   · rename_i e; subst e; omega
   · split
     · rename_i e; subst e; omega
     · omega
 · simp only [up2]
   split
   · rename_i e; exact absurd (e.1.symm.trans e.2) hne
   · exact r.diag i hi
 · have e1 := r.sent i j hi hj
   simp only [up2]
   split
   · rename_i e; obtain ⟨e2, e3⟩ := e; subst e2; subst e3; omega
   · omega
theorem settleP_good {ps : List PayS} (hg : GoodPs ps) (i : Int) : GoodPs (settleP ps i) := by
 unfold settleP
 split
 · rename_i p hs
   intro q hq
   obtain ⟨_, hp, _⟩ := settles_spec hs
   rcases List.mem_or_eq_of_mem_set hq with hq | rfl
   · exact hg q hq
   · have := hg p (List.mem_of_getElem? hp)
     simp only [goodPayB, goodStateB, Bool.and_eq_true] at this ⊢
     exact ⟨⟨this.1.1, by simp⟩, this.2⟩
 · exact hg
theorem pay_transfer {p : PayS} (h : goodPayB p = true) : goodTransferB p.src p.dst p.amt = true := by
 simp only [goodPayB, Bool.and_eq_true] at h
 exact h.1.1.1
end Go.Proofs.Ytmkboljfbmlebab
namespace Go.Proofs.Ytmkboljfbmlebab
open Go.RowKit
set_option linter.unusedSimpArgs false
set_option linter.unusedVariables false
theorem settleP_at {ps : List PayS} {i : Int} {p : PayS} (h : settles ps i = some p) (j : Nat) : (settleP ps i)[j]? = if j = i.toNat then some { p with sta := 2 } else ps[j]? := by
 obtain ⟨h0, hp, h1⟩ := settles_spec h
 have hlt := (List.getElem?_eq_some_iff.1 hp).1
 simp only [settleP, h]
 rw [List.getElem?_set]
 by_cases hj : j = i.toNat
 · subst hj; simp [hlt]
 · rw [if_neg (Ne.symm hj), if_neg hj]
theorem settleP_old {ps : List PayS} {i : Int} {j : Nat} {q : PayS} (h : (settleP ps i)[j]? = some q) : ∃ p, ps[j]? = some p ∧ p.seq = q.seq ∧ p.cls = q.cls := by
 cases hs : settles ps i with
 | none => simp only [settleP, hs] at h; exact ⟨q, h, rfl, rfl⟩
 | some p =>
   rw [settleP_at hs] at h
   split at h
   · rename_i e
     subst e
     simp at h; subst h
     exact ⟨p, (settles_spec hs).2.1, rfl, rfl⟩
   · exact ⟨q, h, rfl, rfl⟩
theorem settleP_new {ps : List PayS} {i : Int} {j : Nat} {p : PayS} (h : ps[j]? = some p) : ∃ q, (settleP ps i)[j]? = some q ∧ p.seq = q.seq ∧ p.cls = q.cls := by
 have hlt := (List.getElem?_eq_some_iff.1 h).1
 obtain ⟨q, hq⟩ : ∃ q, (settleP ps i)[j]? = some q := ⟨(settleP ps i)[j]'(by rw [settleP_len]; exact hlt), by simp⟩
 obtain ⟨p', hp', e⟩ := settleP_old hq
 rw [h] at hp'; simp at hp'; subst hp'
 exact ⟨q, hq, e⟩
theorem SeqsApart.settle {ps : List PayS} (hs : SeqsApart ps) (n : Int) : SeqsApart (settleP ps n) := by
 intro i j p q hp hq e
 obtain ⟨p', hp', e1, _⟩ := settleP_old hp
 obtain ⟨q', hq', e2, _⟩ := settleP_old hq
 exact hs i j p' q' hp' hq' (by omega)
theorem lessK_settle {ps : List PayS} {n a b : Int} (h : lessK ps a b) : lessK (settleP ps n) a b := by
 obtain ⟨p, q, hp, hq, hl⟩ := h
 obtain ⟨p', hp', e1, e2⟩ := settleP_new (i := n) hp
 obtain ⟨q', hq', e3, e4⟩ := settleP_new (i := n) hq
 exact ⟨p', q', hp', hq', by unfold payLt at *; omega⟩
theorem queueM_nodup (ps : List PayS) (bank : Int) : (queueM ps bank).Nodup := (queueTo_spec ps bank ps.length).nodup
theorem queue_tail {ps : List PayS} {bank i : Int} {r : List Int} (hs : SeqsApart ps) (hq : queueM ps bank = i :: r) : queueM (settleP ps i) bank = r := by
 have hn := queueM_nodup ps bank
 rw [hq] at hn
 obtain ⟨hn1, hn2⟩ := List.nodup_cons.1 hn
 obtain ⟨p, hst, hpi, hsta, hsrc⟩ := (queueM_mine (show i ∈ queueM ps bank by rw [hq]; simp)).settles
 have hi0 := (settles_spec hst).1
 have hso := queueM_sorted hs bank
 rw [hq] at hso
 refine (queueM_unique hn2 (fun j => ⟨fun hj => ?_, fun hj => ?_⟩) ((List.pairwise_cons.1 hso).2.imp fun h => lessK_settle h) (hs.settle i)).symm
 · obtain ⟨j0, q, h1, h2, h3⟩ := queueM_mine (show j ∈ queueM ps bank by rw [hq]; exact List.mem_cons_of_mem _ hj)
   have hne : j.toNat ≠ i.toNat := fun e => hn1 (by have : j = i := by omega
                                                    rw [← this]; exact hj)
   exact ⟨j0, q, by rw [settleP_at hst, if_neg hne]; exact h1, h2, h3⟩
 · obtain ⟨j0, q, h1, h2, h3⟩ := hj
   rw [settleP_at hst] at h1
   split at h1
   · simp at h1; subst h1; simp at h2
   · rename_i hne
     have : j ∈ queueM ps bank := queueM_all ⟨j0, q, h1, h2, h3⟩
     rw [hq] at this
     rcases List.mem_cons.1 this with e | h
     · exact absurd (by rw [e]) hne
     · exact h
theorem drain_xs (bank : Int) : ∀ (m : Nat) (c : H) (ps : List PayS) (ys xs : List Int), cnt ps = m → drain bank ⟨c, ps, ys ++ xs⟩ = ⟨(drain bank ⟨c, ps, xs⟩).c, (drain bank ⟨c, ps, xs⟩).ps, ys ++ (drain bank ⟨c, ps, xs⟩).xs⟩ := by
 intro m
 induction m using Nat.strongRecOn with
 | _ m ih =>
   intro c ps ys xs hm
   cases h : firstM c ps bank with
   | none => rw [drain_end (s := ⟨c, ps, ys ++ xs⟩) h, drain_end (s := ⟨c, ps, xs⟩) h]
   | some i =>
     rw [drain_go (s := ⟨c, ps, ys ++ xs⟩) h, drain_go (s := ⟨c, ps, xs⟩) h]
     obtain ⟨p, r, _, h1, _⟩ := firstM_spec h
     have hc := cnt_settle h1
     have := ih (cnt (settleP ps i)) (by omega) (settleC c ps i) (settleP ps i) ys (xs ++ [i]) rfl
     simp only [QS.go]
     rw [List.append_assoc]
     exact this
theorem drain_app (bank : Int) (c : H) (ps : List PayS) (ys : List Int) : drain bank ⟨c, ps, ys⟩ = ⟨(drain bank ⟨c, ps, []⟩).c, (drain bank ⟨c, ps, []⟩).ps, ys ++ (drain bank ⟨c, ps, []⟩).xs⟩ := by
 have := drain_xs bank _ c ps ys [] rfl
 rwa [List.append_nil] at this
theorem drain_keeps (bank : Int) : ∀ (m : Nat) (s : QS), cnt s.ps = m → SeqsApart s.ps → SeqsApart (drain bank s).ps ∧ (drain bank s).ps.length = s.ps.length := by
 intro m
 induction m using Nat.strongRecOn with
 | _ m ih =>
   intro s hm hs
   cases h : firstM s.c s.ps bank with
   | none => rw [drain_end h]; exact ⟨hs, rfl⟩
   | some i =>
     rw [drain_go h]
     obtain ⟨p, r, _, h1, _⟩ := firstM_spec h
     have hc := cnt_settle h1
     obtain ⟨e1, e2⟩ := ih (cnt (settleP s.ps i)) (by omega) (s.go i) rfl (hs.settle i)
     exact ⟨e1, e2.trans (settleP_len _ _)⟩
theorem pass_step {c : H} {ps : List PayS} (hg : goodB c ps = true) {k idle : Nat} {s : QS} (hk : k < 4) (hi : idle ≤ 4) (hs : sweepFrom k idle s = sweepM c ps) :
   ∃ idle', idle' ≤ 4 ∧ sweepFrom ((k + 1) % 4) idle' (drain k s) = sweepM c ps ∧ ((drain k s).xs.length = s.xs.length → idle' = 4 ∨ idle' = idle + 1) := by
 by_cases h4 : idle < 4
 · by_cases hx : (drain k s).xs.length = s.xs.length
   · exact ⟨idle + 1, by omega, by rw [← hs, sweep_idle h4 rfl hx], fun _ => .inr rfl⟩
   · exact ⟨0, by omega, by rw [← hs, sweep_busy h4 rfl hx], fun h => absurd h hx⟩
 · rw [sweep_end h4] at hs
   have hr := sweepM_rests hg k hk
   rw [← hs] at hr
   refine ⟨4, by omega, ?_, fun _ => .inl rfl⟩
   rw [drain_end hr, sweep_end (by omega)]
   exact hs
def cmpI (a b : Int) : Int := bif decide (a < b) then -1 else bif decide (b < a) then 1 else 0
def cmpP (p q : PayS) : Int := bif decide (cmpI p.cls q.cls = 0) then cmpI p.seq q.seq else cmpI p.cls q.cls
theorem cmpI_neg (a b : Int) : cmpI a b < 0 ↔ a < b := by
 unfold cmpI
 by_cases h1 : a < b
 · simp [h1]
 · by_cases h2 : b < a <;> simp [h1, h2]
theorem cmpI_zero (a b : Int) : cmpI a b = 0 ↔ a = b := by
 unfold cmpI
 by_cases h1 : a < b
 · simp [h1]; omega
 · by_cases h2 : b < a
   · simp [h1, h2]; omega
   · simp [h1, h2]; omega
theorem cmpP_neg (p q : PayS) : cmpP p q < 0 ↔ payLt p q := by
 unfold cmpP payLt
 by_cases h : cmpI p.cls q.cls = 0
 · have := (cmpI_zero _ _).1 h
   simp only [h, decide_true, cond_true, cmpI_neg]; omega
 · have h' : ¬ p.cls = q.cls := fun e => h ((cmpI_zero _ _).2 e)
   simp only [h, decide_false, cond_false, cmpI_neg]; omega
def waitTo (ps : List PayS) (bank : Int) : Nat → List Int
 | 0 => []
 | k + 1 => match ps[k]? with
   | some p => bif decide (p.src = bank) && decide (p.sta = 1) then waitTo ps bank k ++ [(k : Int)] else waitTo ps bank k
   | none => waitTo ps bank k
theorem wait_step {ps : List PayS} {bank : Int} {k : Nat} {p : PayS} (h : ps[k]? = some p) : waitTo ps bank (k + 1) = bif decide (p.src = bank) && decide (p.sta = 1) then waitTo ps bank k ++ [(k : Int)] else waitTo ps bank k := by
 simp only [waitTo, h]
theorem wait_len (ps : List PayS) (bank : Int) : ∀ k, (waitTo ps bank k).length ≤ k
 | 0 => by simp [waitTo]
 | k + 1 => by
   have := wait_len ps bank k
   unfold waitTo
   split
   · rename_i p _
     cases decide (p.src = bank) && decide (p.sta = 1)
     · simp only [cond_false]; omega
     · simp only [cond_true, List.length_append, List.length_cons, List.length_nil]; omega
   · omega
theorem wait_spec (ps : List PayS) (bank : Int) : ∀ k, (waitTo ps bank k).Nodup ∧ ∀ i, i ∈ waitTo ps bank k ↔ Mine ps bank i ∧ i < k
 | 0 => ⟨by simp [waitTo], fun i => ⟨fun h => by simp [waitTo] at h, fun ⟨h1, h2⟩ => by have := h1.1; omega⟩⟩
 | k + 1 => by
   obtain ⟨h1, h2⟩ := wait_spec ps bank k
   have hno : ∀ i, (∀ p, ps[k]? = some p → ¬ (p.src = bank ∧ p.sta = 1)) → ((Mine ps bank i ∧ i < k) ↔ (Mine ps bank i ∧ i < ((k + 1 : Nat) : Int))) := fun i hn =>
     ⟨fun ⟨a, b⟩ => ⟨a, by omega⟩, fun ⟨a, b⟩ => ⟨a, by
       obtain ⟨i0, p, hp, h3, h4⟩ := a
       rcases Int.lt_or_le i k with h | h
       · exact h
       · have e : i.toNat = k := by omega
         rw [e] at hp
         exact absurd ⟨h4, h3⟩ (hn p hp)⟩⟩
   cases hp : ps[k]? with
   | none =>
     have e : waitTo ps bank (k + 1) = waitTo ps bank k := by simp only [waitTo, hp]
     rw [e]
     exact ⟨h1, fun i => (h2 i).trans (hno i (fun p h => by rw [hp] at h; cases h))⟩
   | some p =>
     rw [wait_step hp]
     cases hc : decide (p.src = bank) && decide (p.sta = 1)
     · simp only [cond_false]
       refine ⟨h1, fun i => (h2 i).trans (hno i (fun q h => ?_))⟩
       rw [hp] at h; simp at h; subst h
       simpa using hc
     · simp only [cond_true]
       simp at hc
       refine ⟨?_, fun i => ?_⟩
       · rw [List.nodup_append]
         refine ⟨h1, by simp, fun a ha b hb e => ?_⟩
         simp at hb; subst hb; subst e
         have := ((h2 _).1 ha).2
         omega
       · rw [List.mem_append, h2]
         constructor
         · rintro (⟨a, b⟩ | h)
           · exact ⟨a, by omega⟩
           · simp at h; subst h
             exact ⟨⟨by omega, p, by simpa using hp, hc.2, hc.1⟩, by omega⟩
         · rintro ⟨a, b⟩
           by_cases e : i = k
           · exact .inr (by simp [e])
           · exact .inl ⟨a, by omega⟩
theorem wait_all (ps : List PayS) (bank : Int) (i : Int) : i ∈ waitTo ps bank ps.length ↔ Mine ps bank i := by
 rw [(wait_spec ps bank ps.length).2]
 exact ⟨fun h => h.1, fun h => ⟨h, by have := h.lt; omega⟩⟩
theorem sorted_queue {ps : List PayS} {bank : Int} {xs : List Int} (hs : SeqsApart ps) (hp : xs.Perm (waitTo ps bank ps.length)) (ho : xs.Pairwise fun i j => ¬ lessK ps j i) : xs = queueM ps bank := by
 have hn : xs.Nodup := hp.nodup_iff.2 (wait_spec ps bank ps.length).1
 have hm : ∀ i, i ∈ xs ↔ Mine ps bank i := fun i => (hp.mem_iff).trans (wait_all ps bank i)
 refine queueM_unique hn hm ?_ hs
 have h1 : xs.Pairwise fun i j => i ≠ j ∧ ¬ lessK ps j i := List.Pairwise.and hn ho
 exact List.Pairwise.imp_of_mem (fun {a b} ha hb hab => lessK_total hs ((hm a).1 ha) ((hm b).1 hb) hab.1 hab.2) h1
theorem wait_none {ps : List PayS} {bank : Int} (h : ¬ (0 ≤ bank ∧ bank < 4)) (hg : GoodPs ps) : queueM ps bank = [] := by
 cases hq : queueM ps bank with
 | nil => rfl
 | cons i r =>
   obtain ⟨_, p, hp, _, h2⟩ := queueM_mine (show i ∈ queueM ps bank by rw [hq]; simp)
   have := hg p (List.mem_of_getElem? hp)
   have ht := pay_transfer this
   exfalso
   apply h
   subst h2
   exact (transfer_lt ht).1
end Go.Proofs.Ytmkboljfbmlebab
namespace Go.Proofs.Ytmkboljfbmlebab
open Go.RowKit
set_option linter.unusedSimpArgs false
set_option linter.unusedVariables false
structure NearG (k : Int) (h : H) : Prop where
 near : Near k h
 cred : ∀ i : Int, 0 ≤ i ∧ i < 4 → 0 ≤ h.cred i ∧ h.cred i ≤ 1000000
 lim : ∀ i j : Int, 0 ≤ i ∧ i < 4 → 0 ≤ j ∧ j < 4 → -1 ≤ h.lim i j ∧ h.lim i j ≤ 1000000
theorem GoodH.nearG {h : H} (g : GoodH h) : NearG 0 h := ⟨g.near, g.cred, g.lim⟩
theorem NearG.core {k : Int} {h : H} (g : NearG k h) : NearG k h.core := ⟨⟨g.near.has, g.near.sent⟩, g.cred, g.lim⟩
theorem NearG.ofCore {k : Int} {h : H} (g : NearG k h.core) : NearG k h := ⟨⟨g.near.has, g.near.sent⟩, g.cred, g.lim⟩
theorem NearG.mono {k k' : Int} {h : H} (g : NearG k h) (hk : k ≤ k') : NearG k' h :=
 ⟨⟨fun i hi => by have := g.near.has i hi; omega, fun i j hi hj => by have := g.near.sent i j hi hj; omega⟩, g.cred, g.lim⟩
theorem may_near {h : H} {k : Int} (g : NearG k h) (hk : k ≤ 1000000) (a b n : Int) : mayM h a b n = maySendM h a b n := by
 unfold mayM maySendM
 cases ht : goodTransferB a b n
 · rfl
 · obtain ⟨ha, hb, hne, h1, h2⟩ := transfer_spec ht
   have e1 := g.near.has a ha
   have e2 := g.cred a ha
   have e3 := g.near.sent a b ha hb
   have e4 := g.near.sent b a hb ha
   have e5 := g.lim a b ha hb
   have l : leftM h a = h.has a + h.cred a := by
     unfold leftM
     rw [isBank_of ha]
     simp only [Bool.not_true, Bool.false_eq_true, if_false]
     exact wr_in (by omega) (by omega)
   have nn : netM h a b = h.sent a b - h.sent b a := by
     unfold netM
     rw [isBank_of ha, isBank_of hb]
     simp only [Bool.not_true, Bool.or_self, Bool.false_eq_true, if_false]
     exact wr_in (by omega) (by omega)
   rw [l, nn, wr_in (a := h.has a - n) (by omega) (by omega), wr_in (a := 0 - h.cred a) (by omega) (by omega), wr_in (a := h.sent a b - h.sent b a) (by omega) (by omega)]
   have d1 : decide (h.has a + h.cred a < n) = decide (h.has a - n < 0 - h.cred a) := by rw [Bool.eq_iff_iff]; simp; omega
   have d2 : decide (h.lim a b = -1) = decide (h.lim a b ≤ -1) := by rw [Bool.eq_iff_iff]; simp; omega
   rw [d1, d2]
theorem NearG.move {k : Int} {h : H} (g : NearG k h) (h0 : 0 ≤ k) (hk : k ≤ 1000000) {a b n : Int} (ht : goodTransferB a b n = true) : NearG (k + 1) (moveM h a b n) := by
 obtain ⟨ha, hb, hne, h1, h2⟩ := transfer_spec ht
 rw [move_at g.near hk ht]
 refine ⟨⟨fun i hi => ?_, fun i j hi hj => ?_⟩, g.cred, g.lim⟩
 · have e1 := g.near.has i hi
   have e2 := g.near.has a ha
   have e3 := g.near.has b hb
   simp only [up1]
   split
   · omega
   · split <;> omega
 · have e1 := g.near.sent i j hi hj
   have e2 := g.near.sent a b ha hb
   simp only [up2]
   split <;> omega
theorem NearG.settle {k : Int} {c : H} {ps : List PayS} (g : NearG k c) (h0 : 0 ≤ k) (hk : k ≤ 1000000) (hg : GoodPs ps) (n : Int) : NearG (k + 1) (settleC c ps n) := by
 unfold settleC
 split
 · rename_i p hs
   exact g.move h0 hk (pay_transfer (hg p (List.mem_of_getElem? (settles_spec hs).2.1)))
 · exact g.mono (by omega)
theorem drain_near (bank : Int) : ∀ (m : Nat) (s : QS) (k : Int), cnt s.ps = m → GoodPs s.ps → NearG k s.c → 0 ≤ k → k + m ≤ 1000000 → NearG (k + m - cnt (drain bank s).ps) (drain bank s).c ∧ GoodPs (drain bank s).ps := by
 intro m
 induction m using Nat.strongRecOn with
 | _ m ih =>
   intro s k hm hg hn h0 hk
   cases h : firstM s.c s.ps bank with
   | none => rw [drain_end h, hm]; exact ⟨hn.mono (by omega), hg⟩
   | some i =>
     rw [drain_go h]
     obtain ⟨p, r, _, h1, _⟩ := firstM_spec h
     have hc := cnt_settle h1
     have := ih (cnt (settleP s.ps i)) (by omega) (s.go i) (k + 1) rfl (settleP_good hg i) (hn.settle h0 (by omega) hg i) (by omega) (by omega)
     refine ⟨this.1.mono ?_, this.2⟩
     omega
end Go.Proofs.Ytmkboljfbmlebab
namespace Go.Proofs.Ytmkboljfbmlebab
open Go.RowKit
set_option linter.unusedSimpArgs false
set_option linter.unusedVariables false
theorem a4_true {p : Int → Bool} : a4 p = true ↔ ∀ i : Int, 0 ≤ i ∧ i < 4 → p i = true := by
 simp only [a4, Bool.and_eq_true]
 constructor
 · rintro ⟨⟨⟨h0, h1⟩, h2⟩, h3⟩ i ⟨a, b⟩
   have : i = 0 ∨ i = 1 ∨ i = 2 ∨ i = 3 := by omega
   rcases this with rfl | rfl | rfl | rfl <;> assumption
 · intro h
   exact ⟨⟨⟨h 0 (by omega), h 1 (by omega)⟩, h 2 (by omega)⟩, h 3 (by omega)⟩
def firsts (ps : List PayS) (n : Int → Int) (b : Int) : List Int := (queueM ps b).take (n b).toNat
def inS (ps : List PayS) (n : Int → Int) (d : Int) : Int := toS ps d (firsts ps n 0) + toS ps d (firsts ps n 1) + toS ps d (firsts ps n 2) + toS ps d (firsts ps n 3)
theorem queue_goodL {ps : List PayS} (hg : GoodPs ps) (b : Int) : GoodL ps b (queueM ps b) := fun i hi => by
 obtain ⟨_, p, hp, _, hs⟩ := queueM_mine hi
 exact ⟨p, hp, by rw [← hs]; exact pay_transfer (hg p (List.mem_of_getElem? hp))⟩
theorem GoodL.take {ps : List PayS} {b : Int} {xs : List Int} (h : GoodL ps b xs) (k : Nat) : GoodL ps b (xs.take k) := fun i hi => h i (List.mem_of_mem_take hi)
theorem queueM_len (ps : List PayS) (b : Int) : (queueM ps b).length ≤ ps.length := queueTo_len ps b ps.length
structure StandsAt (h : H) (ps : List PayS) (n : Int → Int) (x : H) : Prop where
 has : ∀ i : Int, 0 ≤ i ∧ i < 4 → x.has i = h.has i - outS ps (firsts ps n i) + inS ps n i
 sent : ∀ i j : Int, 0 ≤ i ∧ i < 4 → 0 ≤ j ∧ j < 4 → x.sent i j = h.sent i j + toS ps j (firsts ps n i)
 cred : x.cred = h.cred
 lim : x.lim = h.lim
 near : Near 96 x
theorem moves_spec {h : H} {ps : List PayS} (hg : goodB h ps = true) (n : Int → Int) : StandsAt h ps n (movesTo h ps n 4) := by
 obtain ⟨g1, _, g3⟩ := good_pays hg
 have gl : ∀ b : Int, GoodL ps b (firsts ps n b) := fun b => (queue_goodL g1 b).take _
 have ll : ∀ b : Int, (firsts ps n b).length ≤ 24 := fun b => by
   have := queueM_len ps b
   unfold firsts
   rw [List.length_take]; omega
 have h0 := moveQ_spec ps 0 (firsts ps n 0) h 0 (gl 0) (good_of hg).near (by omega) (by have := ll 0; omega)
 have e1 : movesTo h ps n 1 = moveQ ps 0 h (firsts ps n 0) := rfl
 rw [← e1] at h0
 obtain ⟨a1, a2, a3, a4, a5⟩ := h0
 have h1 := moveQ_spec ps 1 (firsts ps n 1) _ _ (gl 1) a5 (by omega) (by have := ll 0; have := ll 1; omega)
 have e2 : movesTo h ps n 2 = moveQ ps 1 (movesTo h ps n 1) (firsts ps n 1) := rfl
 rw [← e2] at h1
 obtain ⟨b1, b2, b3, b4, b5⟩ := h1
 have h2 := moveQ_spec ps 2 (firsts ps n 2) _ _ (gl 2) b5 (by omega) (by have := ll 0; have := ll 1; have := ll 2; omega)
 have e3 : movesTo h ps n 3 = moveQ ps 2 (movesTo h ps n 2) (firsts ps n 2) := rfl
 rw [← e3] at h2
 obtain ⟨c1, c2, c3, c4, c5⟩ := h2
 have h3 := moveQ_spec ps 3 (firsts ps n 3) _ _ (gl 3) c5 (by omega) (by have := ll 0; have := ll 1; have := ll 2; have := ll 3; omega)
 have e4 : movesTo h ps n 4 = moveQ ps 3 (movesTo h ps n 3) (firsts ps n 3) := rfl
 rw [← e4] at h3
 obtain ⟨d1, d2, d3, d4, d5⟩ := h3
 refine ⟨fun i hi => ?_, fun i j hi hj => ?_, by rw [d3, c3, b3, a3], by rw [d4, c4, b4, a4], ⟨fun i hi => ?_, fun i j hi hj => ?_⟩⟩
 · rw [d1 i hi, c1 i hi, b1 i hi, a1 i hi]
   unfold inS
   have : i = 0 ∨ i = 1 ∨ i = 2 ∨ i = 3 := by omega
   rcases this with rfl | rfl | rfl | rfl <;> simp <;> omega
 · rw [d2 i j hi hj, c2 i j hi hj, b2 i j hi hj, a2 i j hi hj]
   have : i = 0 ∨ i = 1 ∨ i = 2 ∨ i = 3 := by omega
   rcases this with rfl | rfl | rfl | rfl <;> simp
 · have := d5.has i hi
   have := ll 0; have := ll 1; have := ll 2; have := ll 3
   omega
 · have := d5.sent i j hi hj
   have := ll 0; have := ll 1; have := ll 2; have := ll 3
   omega
theorem ok_iff {x : H} (hn : Near 96 x) (hc : ∀ i : Int, 0 ≤ i ∧ i < 4 → 0 ≤ x.cred i ∧ x.cred i ≤ 1000000) {b : Int} (hb : 0 ≤ b ∧ b < 4) :
   okBank x b = true ↔ 0 ≤ x.has b + x.cred b ∧ ∀ t : Int, 0 ≤ t ∧ t < 4 → 0 ≤ x.lim b t → x.sent b t - x.sent t b ≤ x.lim b t := by
 have h1 := hn.has b hb
 have h2 := hc b hb
 unfold okBank
 rw [Bool.and_eq_true, a4_true, wr_in (by omega) (by omega)]
 simp only [Bool.not_eq_true', decide_eq_false_iff_not, Bool.and_eq_false_iff]
 constructor
 · rintro ⟨e1, e2⟩
   refine ⟨by omega, fun t ht hl => ?_⟩
   have h3 := hn.sent b t hb ht
   have h4 := hn.sent t b ht hb
   have := e2 t ht
   rw [wr_in (by omega) (by omega)] at this
   omega
 · rintro ⟨e1, e2⟩
   refine ⟨by omega, fun t ht => ?_⟩
   have h3 := hn.sent b t hb ht
   have h4 := hn.sent t b ht hb
   rw [wr_in (by omega) (by omega)]
   have := e2 t ht
   omega
structure Poss (h : H) (ps : List PayS) (n : Int → Int) : Prop where
 good : goodB h ps = true
 size : ∀ b : Int, 0 ≤ b ∧ b < 4 → 0 ≤ n b ∧ n b ≤ (queueM ps b).length
 left : ∀ b : Int, 0 ≤ b ∧ b < 4 → n b ≠ 0 → 0 ≤ h.has b - outS ps (firsts ps n b) + inS ps n b + h.cred b
 lim : ∀ b t : Int, 0 ≤ b ∧ b < 4 → 0 ≤ t ∧ t < 4 → n b ≠ 0 → 0 ≤ h.lim b t → h.sent b t + toS ps t (firsts ps n b) - (h.sent t b + toS ps b (firsts ps n t)) ≤ h.lim b t
theorem poss_iff {h : H} {ps : List PayS} {n : Int → Int} : togetherM h ps n = true ↔ Poss h ps n := by
 unfold togetherM
 rw [Bool.and_eq_true, Bool.and_eq_true, a4_true, a4_true]
 constructor
 · rintro ⟨⟨hg, hs⟩, ho⟩
   have st := moves_spec hg n
   have gh := good_of hg
   have key : ∀ b : Int, 0 ≤ b ∧ b < 4 → n b ≠ 0 → _ := fun b hb hn => (ok_iff st.near (fun i hi => by rw [st.cred]; exact gh.cred i hi) hb).1 (by
     have := ho b hb
     simpa [hn] using this)
   refine ⟨hg, fun b hb => within_iff.1 (hs b hb), fun b hb hn => ?_, fun b t hb ht hn hl => ?_⟩
   · have := (key b hb hn).1
     rw [st.has b hb, st.cred] at this; exact this
   · have := (key b hb hn).2 t ht
     rw [st.lim, st.sent b t hb ht, st.sent t b ht hb] at this
     exact this hl
 · rintro ⟨hg, hs, hl, hi⟩
   have st := moves_spec hg n
   have gh := good_of hg
   refine ⟨⟨hg, fun b hb => within_iff.2 (hs b hb)⟩, fun b hb => ?_⟩
   by_cases hn : n b = 0
   · simp [hn]
   · simp only [hn, decide_false, Bool.false_or]
     refine (ok_iff st.near (fun i hi => by rw [st.cred]; exact gh.cred i hi) hb).2 ⟨?_, fun t ht h0 => ?_⟩
     · rw [st.has b hb, st.cred]; exact hl b hb hn
     · rw [st.lim] at h0 ⊢
       rw [st.sent b t hb ht, st.sent t b ht hb]; exact hi b t hb ht hn h0
theorem in_mono {ps : List PayS} (hg : GoodPs ps) {n m : Int → Int} (hnm : ∀ b : Int, 0 ≤ b ∧ b < 4 → n b ≤ m b) (b d : Int) (hb : 0 ≤ b ∧ b < 4) : toS ps d (firsts ps n b) ≤ toS ps d (firsts ps m b) :=
 toS_take ps d (queueM ps b) (toOf_nonneg (queue_goodL hg b) d) _ _ (by have := hnm b hb; omega)
theorem inS_mono {ps : List PayS} (hg : GoodPs ps) {n m : Int → Int} (hnm : ∀ b : Int, 0 ≤ b ∧ b < 4 → n b ≤ m b) (d : Int) : inS ps n d ≤ inS ps m d := by
 have e0 := in_mono hg hnm 0 d (by omega)
 have e1 := in_mono hg hnm 1 d (by omega)
 have e2 := in_mono hg hnm 2 d (by omega)
 have e3 := in_mono hg hnm 3 d (by omega)
 unfold inS; omega
theorem Poss.lift {h : H} {ps : List PayS} {n m : Int → Int} (p : Poss h ps n) (hnm : ∀ b : Int, 0 ≤ b ∧ b < 4 → n b ≤ m b) {b : Int} (hb : 0 ≤ b ∧ b < 4) (he : m b = n b) (hn : n b ≠ 0) :
   0 ≤ h.has b - outS ps (firsts ps m b) + inS ps m b + h.cred b ∧ ∀ t : Int, 0 ≤ t ∧ t < 4 → 0 ≤ h.lim b t → h.sent b t + toS ps t (firsts ps m b) - (h.sent t b + toS ps b (firsts ps m t)) ≤ h.lim b t := by
 have g1 := (good_pays p.good).1
 have e : firsts ps m b = firsts ps n b := by unfold firsts; rw [he]
 rw [e]
 have e1 := p.left b hb hn
 have e2 := inS_mono g1 hnm b
 refine ⟨by omega, fun t ht hl => ?_⟩
 have e3 := p.lim b t hb ht hn hl
 have e4 := in_mono g1 hnm t b ht
 omega
def joinM (n m : Int → Int) : Int → Int := fun b => if n b < m b then m b else n b
theorem Poss.join {h : H} {ps : List PayS} {n m : Int → Int} (p : Poss h ps n) (q : Poss h ps m) : Poss h ps (joinM n m) := by
 have l1 : ∀ b : Int, 0 ≤ b ∧ b < 4 → n b ≤ joinM n m b := fun b _ => by unfold joinM; split <;> omega
 have l2 : ∀ b : Int, 0 ≤ b ∧ b < 4 → m b ≤ joinM n m b := fun b _ => by unfold joinM; split <;> omega
 have key : ∀ b : Int, 0 ≤ b ∧ b < 4 → joinM n m b ≠ 0 → _ := fun b hb hne => by
   by_cases hlt : n b < m b
   · have e : joinM n m b = m b := by simp only [joinM, if_pos hlt]
     exact q.lift l2 hb e (by rw [← e]; exact hne)
   · have e : joinM n m b = n b := by simp only [joinM, if_neg hlt]
     exact p.lift l1 hb e (by rw [← e]; exact hne)
 refine ⟨p.good, fun b hb => ?_, fun b hb hne => (key b hb hne).1, fun b t hb ht hne hl => (key b hb hne).2 t ht hl⟩
 have e1 := p.size b hb
 have e2 := q.size b hb
 unfold joinM; split <;> omega
theorem poss_zero {h : H} {ps : List PayS} (hg : goodB h ps = true) {n : Int → Int} (hn : ∀ b : Int, 0 ≤ b ∧ b < 4 → n b = 0) : Poss h ps n :=
 ⟨hg, fun b hb => by rw [hn b hb]; omega, fun b hb h => absurd (hn b hb) h, fun b t hb ht h => absurd (hn b hb) h⟩
structure IsMost (h : H) (ps : List PayS) (m : Int → Int) : Prop where
 poss : Poss h ps m
 most : ∀ n, Poss h ps n → ∀ b : Int, 0 ≤ b ∧ b < 4 → n b ≤ m b
theorem IsMost.unique {h : H} {ps : List PayS} {m m' : Int → Int} (a : IsMost h ps m) (a' : IsMost h ps m') (b : Int) (hb : 0 ≤ b ∧ b < 4) : m b = m' b := by
 have := a.most m' a'.poss b hb
 have := a'.most m a.poss b hb
 omega
theorem most_of_one {h : H} {ps : List PayS} (hg : goodB h ps = true) (b : Int) (hb : 0 ≤ b ∧ b < 4) : ∃ n, Poss h ps n ∧ ∀ n', Poss h ps n' → n' b ≤ n b := by
 have go : ∀ (k : Nat) (n : Int → Int), Poss h ps n → (queueM ps b).length - (n b).toNat ≤ k → ∃ n, Poss h ps n ∧ ∀ n', Poss h ps n' → n' b ≤ n b := by
   intro k
   induction k with
   | zero =>
     intro n p hk
     refine ⟨n, p, fun n' p' => ?_⟩
     have := p.size b hb
     have := p'.size b hb
     omega
   | succ k ih =>
     intro n p hk
     by_cases hex : ∃ n', Poss h ps n' ∧ n b < n' b
     · obtain ⟨n', p', hlt⟩ := hex
       have := p.size b hb
       exact ih n' p' (by omega)
     · exact ⟨n, p, fun n' p' => by
         rcases Int.lt_or_le (n b) (n' b) with h | h
         · exact absurd ⟨n', p', h⟩ hex
         · exact h⟩
 exact go _ (fun _ => 0) (poss_zero hg (fun _ _ => rfl)) (Nat.le_refl _)
theorem most_exists {h : H} {ps : List PayS} (hg : goodB h ps = true) : ∃ m, IsMost h ps m := by
 obtain ⟨n0, p0, m0⟩ := most_of_one hg 0 (by omega)
 obtain ⟨n1, p1, m1⟩ := most_of_one hg 1 (by omega)
 obtain ⟨n2, p2, m2⟩ := most_of_one hg 2 (by omega)
 obtain ⟨n3, p3, m3⟩ := most_of_one hg 3 (by omega)
 refine ⟨joinM (joinM n0 n1) (joinM n2 n3), (p0.join p1).join (p2.join p3), fun n p b hb => ?_⟩
 have : b = 0 ∨ b = 1 ∨ b = 2 ∨ b = 3 := by omega
 rcases this with rfl | rfl | rfl | rfl
 · have := m0 n p; unfold joinM; repeat' split
   all_goals omega
 · have := m1 n p; unfold joinM; repeat' split
   all_goals omega
 · have := m2 n p; unfold joinM; repeat' split
   all_goals omega
 · have := m3 n p; unfold joinM; repeat' split
   all_goals omega
noncomputable def mostM (h : H) (ps : List PayS) : Int → Int := if hg : goodB h ps = true then Classical.choose (most_exists hg) else fun _ => 0
theorem mostM_is {h : H} {ps : List PayS} (hg : goodB h ps = true) : IsMost h ps (mostM h ps) := by
 unfold mostM
 rw [dif_pos hg]
 exact Classical.choose_spec (most_exists hg)
theorem mostM_bad {h : H} {ps : List PayS} (hg : goodB h ps = false) : mostM h ps = fun _ => 0 := by
 unfold mostM
 rw [dif_neg (by rw [hg]; decide)]
theorem mostM_row {h : H} {ps : List PayS} {m : Int → Int} (a : IsMost h ps m) : rowA (mostM h ps) = rowA m := by
 have u := fun b hb => (mostM_is a.poss.good).unique a b hb
 unfold rowA
 exact sameq _ _ (fun i hi => by unfold rowC; rw [u i (by omega)])
noncomputable def untieXs (h : H) (ps : List PayS) : List Int := firsts ps (mostM h ps) 0 ++ firsts ps (mostM h ps) 1 ++ firsts ps (mostM h ps) 2 ++ firsts ps (mostM h ps) 3
noncomputable def untieM (h : H) (ps : List PayS) : QS := ⟨chainC h ps (untieXs h ps), chainP ps (untieXs h ps), untieXs h ps⟩
end Go.Proofs.Ytmkboljfbmlebab
namespace Go.Proofs.Ytmkboljfbmlebab
open Go.RowKit
set_option linter.unusedSimpArgs false
set_option linter.unusedVariables false
theorem firsts_congr {ps : List PayS} {n m : Int → Int} {b : Int} (h : n b = m b) : firsts ps n b = firsts ps m b := by unfold firsts; rw [h]
theorem inS_congr {ps : List PayS} {n m : Int → Int} (h : ∀ b : Int, 0 ≤ b ∧ b < 4 → n b = m b) (d : Int) : inS ps n d = inS ps m d := by
 unfold inS
 rw [firsts_congr (h 0 (by omega)), firsts_congr (h 1 (by omega)), firsts_congr (h 2 (by omega)), firsts_congr (h 3 (by omega))]
theorem Poss.congr {h : H} {ps : List PayS} {n m : Int → Int} (p : Poss h ps n) (e : ∀ b : Int, 0 ≤ b ∧ b < 4 → n b = m b) : Poss h ps m :=
 ⟨p.good, fun b hb => by rw [← e b hb]; exact p.size b hb, fun b hb hn => by
   rw [← firsts_congr (e b hb), ← inS_congr e]; exact p.left b hb (by rw [e b hb]; exact hn), fun b t hb ht hn hl => by
   rw [← firsts_congr (e b hb), ← firsts_congr (e t ht)]; exact p.lim b t hb ht (by rw [e b hb]; exact hn) hl⟩
theorem Poss.core {h : H} {ps : List PayS} {n : Int → Int} : Poss h.core ps n ↔ Poss h ps n := ⟨fun p => ⟨p.good, p.size, p.left, p.lim⟩, fun p => ⟨p.good, p.size, p.left, p.lim⟩⟩
def Bef (n' n : Int → Int) : Prop := n' 3 < n 3 ∨ (n' 3 = n 3 ∧ (n' 2 < n 2 ∨ (n' 2 = n 2 ∧ (n' 1 < n 1 ∨ (n' 1 = n 1 ∧ n' 0 < n 0)))))
def Same4 (n' n : Int → Int) : Prop := n' 0 = n 0 ∧ n' 1 = n 1 ∧ n' 2 = n 2 ∧ n' 3 = n 3
theorem Same4.all {n' n : Int → Int} (h : Same4 n' n) : ∀ b : Int, 0 ≤ b ∧ b < 4 → n' b = n b := by
 obtain ⟨h0, h1, h2, h3⟩ := h
 intro b hb
 have : b = 0 ∨ b = 1 ∨ b = 2 ∨ b = 3 := by omega
 rcases this with rfl | rfl | rfl | rfl <;> assumption
def qLen (ps : List PayS) (b : Int) : Int := (queueM ps b).length
structure Odo (h : H) (ps : List PayS) (n best : Int → Int) : Prop where
 size : ∀ b : Int, 0 ≤ b ∧ b < 4 → 0 ≤ n b ∧ n b ≤ qLen ps b
 poss : Poss h ps best
 seen : ∀ n', Poss h ps n' → Bef n' n → ∀ b : Int, 0 ≤ b ∧ b < 4 → n' b ≤ best b
structure Seen (h : H) (ps : List PayS) (n best : Int → Int) : Prop where
 poss : Poss h ps best
 seen : ∀ n', Poss h ps n' → Bef n' n ∨ Same4 n' n → ∀ b : Int, 0 ≤ b ∧ b < 4 → n' b ≤ best b
theorem Odo.no {h : H} {ps : List PayS} {n best : Int → Int} (o : Odo h ps n best) (ht : togetherM h ps n = false) : Seen h ps n best :=
 ⟨o.poss, fun n' p hb => hb.elim (o.seen n' p) fun e => by
   have := (poss_iff).2 (p.congr e.all)
   rw [ht] at this; cases this⟩
theorem Odo.less {h : H} {ps : List PayS} {n best : Int → Int} (o : Odo h ps n best) (hl : ∀ b : Int, 0 ≤ b ∧ b < 4 → n b ≤ best b) : Seen h ps n best :=
 ⟨o.poss, fun n' p hb => hb.elim (o.seen n' p) fun e b hb => by rw [e.all b hb]; exact hl b hb⟩
theorem Odo.yes {h : H} {ps : List PayS} {n best best' : Int → Int} (o : Odo h ps n best) (ht : togetherM h ps n = true) (hb : ∀ b : Int, 0 ≤ b ∧ b < 4 → best' b = joinM best n b) : Seen h ps n best' := by
 have pn := poss_iff.1 ht
 refine ⟨(o.poss.join pn).congr fun b h => (hb b h).symm, fun n' p hbs b h => ?_⟩
 rw [hb b h]
 rcases hbs with hbs | e
 · have := o.seen n' p hbs b h
   unfold joinM; split <;> omega
 · rw [e.all b h]
   unfold joinM; split <;> omega
theorem Seen.next {h : H} {ps : List PayS} {n best n2 : Int → Int} (o : Seen h ps n best) (hs : ∀ b : Int, 0 ≤ b ∧ b < 4 → 0 ≤ n b ∧ n b ≤ qLen ps b) (k : Int) (hk : 0 ≤ k ∧ k < 4) (hlo : ∀ b : Int, 0 ≤ b → b < k → n b = qLen ps b ∧ n2 b = 0) (hat : n k ≠ qLen ps k ∧ n2 k = n k + 1) (hhi : ∀ b : Int, k < b → b < 4 → n2 b = n b) :
   Odo h ps n2 best ∧ n 0 + 25 * n 1 + 625 * n 2 + 15625 * n 3 < n2 0 + 25 * n2 1 + 625 * n2 2 + 15625 * n2 3 := by
 have hg := (good_pays o.poss.good).2.2
 have l24 : ∀ b, qLen ps b ≤ 24 := fun b => by have := queueM_len ps b; unfold qLen; omega
 have s0 := hs 0 (by omega)
 have s1 := hs 1 (by omega)
 have s2 := hs 2 (by omega)
 have s3 := hs 3 (by omega)
 have t0 := l24 0
 have t1 := l24 1
 have t2 := l24 2
 have t3 := l24 3
 have hk4 : k = 0 ∨ k = 1 ∨ k = 2 ∨ k = 3 := by omega
 rcases hk4 with rfl | rfl | rfl | rfl
 · have a0 := hat
   have b1 := hhi 1 (by omega) (by omega)
   have b2 := hhi 2 (by omega) (by omega)
   have b3 := hhi 3 (by omega) (by omega)
   refine ⟨⟨fun b hb => ?_, o.poss, fun n' p hbe => o.seen n' p ?_⟩, by omega⟩
   · have : b = 0 ∨ b = 1 ∨ b = 2 ∨ b = 3 := by omega
     rcases this with rfl | rfl | rfl | rfl <;> omega
   · have p0 := p.size 0 (by omega)
     have p1 := p.size 1 (by omega)
     have p2 := p.size 2 (by omega)
     have p3 := p.size 3 (by omega)
     unfold qLen at *
     unfold Bef Same4 at *
     omega
 · have a0 := hlo 0 (by omega) (by omega)
   have b1 := hat
   have b2 := hhi 2 (by omega) (by omega)
   have b3 := hhi 3 (by omega) (by omega)
   refine ⟨⟨fun b hb => ?_, o.poss, fun n' p hbe => o.seen n' p ?_⟩, by omega⟩
   · have : b = 0 ∨ b = 1 ∨ b = 2 ∨ b = 3 := by omega
     rcases this with rfl | rfl | rfl | rfl <;> omega
   · have p0 := p.size 0 (by omega)
     have p1 := p.size 1 (by omega)
     have p2 := p.size 2 (by omega)
     have p3 := p.size 3 (by omega)
     unfold qLen at *
     unfold Bef Same4 at *
     omega
 · have a0 := hlo 0 (by omega) (by omega)
   have b1 := hlo 1 (by omega) (by omega)
   have b2 := hat
   have b3 := hhi 3 (by omega) (by omega)
   refine ⟨⟨fun b hb => ?_, o.poss, fun n' p hbe => o.seen n' p ?_⟩, by omega⟩
   · have : b = 0 ∨ b = 1 ∨ b = 2 ∨ b = 3 := by omega
     rcases this with rfl | rfl | rfl | rfl <;> omega
   · have p0 := p.size 0 (by omega)
     have p1 := p.size 1 (by omega)
     have p2 := p.size 2 (by omega)
     have p3 := p.size 3 (by omega)
     unfold qLen at *
     unfold Bef Same4 at *
     omega
 · have a0 := hlo 0 (by omega) (by omega)
   have b1 := hlo 1 (by omega) (by omega)
   have b2 := hlo 2 (by omega) (by omega)
   have b3 := hat
   refine ⟨⟨fun b hb => ?_, o.poss, fun n' p hbe => o.seen n' p ?_⟩, by omega⟩
   · have : b = 0 ∨ b = 1 ∨ b = 2 ∨ b = 3 := by omega
     rcases this with rfl | rfl | rfl | rfl <;> omega
   · have p0 := p.size 0 (by omega)
     have p1 := p.size 1 (by omega)
     have p2 := p.size 2 (by omega)
     have p3 := p.size 3 (by omega)
     unfold qLen at *
     unfold Bef Same4 at *
     omega
theorem Seen.most {h : H} {ps : List PayS} {n best : Int → Int} (o : Seen h ps n best) (he : ∀ b : Int, 0 ≤ b ∧ b < 4 → n b = qLen ps b) : IsMost h ps best := by
 refine ⟨o.poss, fun n' p => o.seen n' p ?_⟩
 have p0 := p.size 0 (by omega)
 have p1 := p.size 1 (by omega)
 have p2 := p.size 2 (by omega)
 have p3 := p.size 3 (by omega)
 have e0 := he 0 (by omega)
 have e1 := he 1 (by omega)
 have e2 := he 2 (by omega)
 have e3 := he 3 (by omega)
 unfold qLen at *
 unfold Bef Same4
 omega
theorem settlesOf {ps : List PayS} {n : Int} {p : PayS} (h0 : 0 ≤ n) (hp : ps[n.toNat]? = some p) (hs : p.sta = 1) : settles ps n = some p := by simp [settles, h0, hp, hs]
def moveL (ps : List PayS) (c : H) : List Int → H
 | [] => c
 | i :: r => moveL ps (match ps[i.toNat]? with | some p => moveM c p.src p.dst p.amt | none => c) r
theorem moveL_settle (ps : List PayS) (k : Int) : ∀ (xs : List Int) (c : H), moveL (settleP ps k) c xs = moveL ps c xs
 | [], _ => rfl
 | i :: r, c => by
   have e : (match (settleP ps k)[i.toNat]? with | some p => moveM c p.src p.dst p.amt | none => c) = (match ps[i.toNat]? with | some p => moveM c p.src p.dst p.amt | none => c) := by
     cases hs : settles ps k with
     | none => simp only [settleP, hs]
     | some p =>
       rw [settleP_at hs]
       by_cases hi : i.toNat = k.toNat
       · rw [if_pos hi, hi, (settles_spec hs).2.1]
       · rw [if_neg hi]
   simp only [moveL]
   rw [e, moveL_settle ps k r]
theorem chain_moves : ∀ (xs : List Int) (c : H) (ps : List PayS), xs.Nodup → (∀ i ∈ xs, ∃ p, settles ps i = some p) → chainC c ps xs = moveL ps c xs
 | [], _, _, _, _ => rfl
 | i :: r, c, ps, hn, hq => by
   obtain ⟨h1, h2⟩ := List.nodup_cons.1 hn
   obtain ⟨p, hp⟩ := hq i (by simp)
   obtain ⟨i0, hpi, _⟩ := settles_spec hp
   simp only [chainC, moveL, hpi]
   rw [chain_moves r _ _ h2 (fun j hj => ?_), moveL_settle]
   · simp only [settleC, hp]
   · obtain ⟨q, hq'⟩ := hq j (by simp [hj])
     obtain ⟨j0, hqj, hs⟩ := settles_spec hq'
     have hne : j.toNat ≠ i.toNat := fun e => h1 (by have : j = i := by omega
                                                     rw [← this]; exact hj)
     exact ⟨q, settlesOf j0 (by rw [settleP_at hp, if_neg hne]; exact hqj) hs⟩
theorem moveL_append (ps : List PayS) : ∀ (xs ys : List Int) (c : H), moveL ps c (xs ++ ys) = moveL ps (moveL ps c xs) ys
 | [], _, _ => rfl
 | i :: r, ys, c => by simp only [List.cons_append, moveL]; rw [moveL_append ps r]
theorem moveL_queue {ps : List PayS} {b : Int} : ∀ (xs : List Int) (c : H), (∀ i ∈ xs, Mine ps b i) → moveL ps c xs = moveQ ps b c xs
 | [], _, _ => rfl
 | i :: r, c, h => by
   obtain ⟨_, p, hp, _, hs⟩ := h i (by simp)
   simp only [moveL, moveQ, hp]
   rw [moveL_queue r _ (fun j hj => h j (by simp [hj])), hs]
theorem firsts_mine {ps : List PayS} {n : Int → Int} {b i : Int} (h : i ∈ firsts ps n b) : Mine ps b i := queueM_mine (List.mem_of_mem_take h)
theorem Mine.same {ps : List PayS} {a b i : Int} (h : Mine ps a i) (h' : Mine ps b i) : a = b := by
 obtain ⟨_, p, hp, _, h1⟩ := h
 obtain ⟨_, q, hq, _, h2⟩ := h'
 rw [hp] at hq; simp at hq; subst hq
 omega
def allFirsts (ps : List PayS) (n : Int → Int) : List Int := firsts ps n 0 ++ firsts ps n 1 ++ firsts ps n 2 ++ firsts ps n 3
theorem firsts_nodup (ps : List PayS) (n : Int → Int) (b : Int) : (firsts ps n b).Nodup := (List.take_sublist _ _).nodup (queueM_nodup ps b)
theorem allFirsts_nodup (ps : List PayS) (n : Int → Int) : (allFirsts ps n).Nodup := by
 unfold allFirsts
 have ne : ∀ {a b i j : Int}, a ≠ b → i ∈ firsts ps n a → j ∈ firsts ps n b → i ≠ j := fun hab hi hj e => hab (by
   subst e; exact (firsts_mine hi).same (firsts_mine hj))
 simp only [List.nodup_append, List.mem_append]
 refine ⟨⟨⟨firsts_nodup _ _ _, firsts_nodup _ _ _, fun a ha b hb => ne (by omega) ha hb⟩, firsts_nodup _ _ _, ?_⟩, firsts_nodup _ _ _, ?_⟩
 · rintro a (ha | ha) b hb
   · exact ne (by omega) ha hb
   · exact ne (by omega) ha hb
 · rintro a ((ha | ha) | ha) b hb
   · exact ne (by omega) ha hb
   · exact ne (by omega) ha hb
   · exact ne (by omega) ha hb
theorem allFirsts_settles {ps : List PayS} {n : Int → Int} {i : Int} (h : i ∈ allFirsts ps n) : ∃ p, settles ps i = some p := by
 unfold allFirsts at h
 simp only [List.mem_append] at h
 have : ∃ b, i ∈ firsts ps n b := by
   rcases h with ((h | h) | h) | h
   · exact ⟨_, h⟩
   · exact ⟨_, h⟩
   · exact ⟨_, h⟩
   · exact ⟨_, h⟩
 obtain ⟨b, hb⟩ := this
 obtain ⟨p, hp, _⟩ := (firsts_mine hb).settles
 exact ⟨p, hp⟩
theorem untie_moves (h : H) (ps : List PayS) (n : Int → Int) : chainC h ps (allFirsts ps n) = movesTo h ps n 4 := by
 rw [chain_moves _ _ _ (allFirsts_nodup ps n) (fun i hi => allFirsts_settles hi)]
 unfold allFirsts
 rw [moveL_append, moveL_append, moveL_append, moveL_queue _ _ (fun i hi => firsts_mine hi), moveL_queue _ _ (fun i hi => firsts_mine hi), moveL_queue _ _ (fun i hi => firsts_mine hi), moveL_queue _ _ (fun i hi => firsts_mine hi)]
 rfl
end Go.Proofs.Ytmkboljfbmlebab
