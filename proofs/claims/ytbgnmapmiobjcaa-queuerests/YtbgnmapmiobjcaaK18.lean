/- A region that draws its order, as before, with one operation behind all the others that may write. No condition. -/
import Derived.Test.YtbgnmapmiobjcaaK17
namespace Go.Proofs.Ytbgnmapmiobjcaa
open Go.RowKit
set_option linter.unusedSimpArgs false
set_option linter.unusedVariables false

def flowTB (md : Region.Mode) (l : List Oper) (o0 : Oper) : Bool :=
  (dstsOf l).Nodup && (l.zipIdx.all fun (o, i) => (o.looksAt (l ++ [o0]).toArray).all (fun t => l.zipIdx.all fun (u, j) => !(u.dst == some t) || o.after.any (fun e => Region.binds md e && e.on == j)) && o.after.all (fun e => !Region.binds md e || decide (e.on < i))) &&
  (List.range l.length).all (fun j => o0.after.any fun e => Region.binds md e && e.on == j) && o0.after.all (fun e => !Region.binds md e || decide (e.on < l.length))
section
variable {P : Program} {n : Nat} {C : World → Prop} {f : Nat → Value} {l : List Oper} {o0 : Oper} {Ψ : Nat → Value → World → Prop} {Q : Exit → (Nat → Value) → World → Prop}
def ObT (P : Program) (C : World → Prop) (f : Nat → Value) (l : List Oper) (o0 : Oper) (Ψ : Nat → Value → World → Prop) (o : Oper) : Prop :=
  ∀ g w, C w → (∀ t ∈ o.looksAt (l ++ [o0]).toArray, (t ∈ dstsOf l → Ψ t (g t) w) ∧ (t ∉ dstsOf l → g t = f t)) →
    if Region.wanted o (yf (l ++ [o0]).toArray g) then opk P o g w (fun g' w' => ∃ v, g' = updo g o.dst v ∧ Bel w.heap.size w w' ∧ ∀ d, o.dst = some d → Ψ d v w') else ∀ d, o.dst = some d → Ψ d undef w
def ObsT (P : Program) (C : World → Prop) (f : Nat → Value) (l : List Oper) (o0 : Oper) (Ψ : Nat → Value → World → Prop) : List Oper → Prop
  | [] => True
  | o :: r => ObT P C f l o0 Ψ o ∧ ObsT P C f l o0 Ψ r
theorem ObsT.mem {r : List Oper} (h : ObsT P C f l o0 Ψ r) : ∀ o ∈ r, ObT P C f l o0 Ψ o := by
  induction r with
  | nil => intro o ho; cases ho
  | cons x r ih =>
    intro o ho
    rcases List.mem_cons.1 ho with e | ho
    · rw [e]; exact h.1
    · exact ih h.2 o ho
structure FlowInvT (C : World → Prop) (f : Nat → Value) (l : List Oper) (Ψ : Nat → Value → World → Prop) (s : Array Bool) (g : Nat → Value) (w : World) : Prop where
  size : s.size = l.length + 1
  last : s[l.length]? = some false
  cls : C w
  done : ∀ (i : Nat) (o : Oper) (d : Nat), l[i]? = some o → s[i]? = some true → o.dst = some d → Ψ d (g d) w
  out : ∀ t, t ∉ dstsOf l → g t = f t
theorem d_flowT {id : Nat} (hm : P.follows .mixedOrders = true) (hB : opsB n (l ++ [o0]).toArray = true) (hF : flowTB .any l o0 = true) (hC : ∀ w w', C w → Bel w.heap.size w w' → C w')
    (hΨ : ∀ d v w w', C w → Bel w.heap.size w w' → Ψ d v w → Ψ d v w') (h : ObsT P C f l o0 Ψ l)
    (k : ∀ g w, C w → (∀ d ∈ dstsOf l, Ψ d (g d) w) → (∀ t, t ∉ dstsOf l → g t = f t) → sw P (l ++ [o0]).toArray (fun f w => Q .normal f w) [o0] g w) : cC P n (.region id (l ++ [o0]).toArray true) Q f C := by
  simp only [flowTB, Bool.and_eq_true, decide_eq_true_eq, List.all_eq_true] at hF
  obtain ⟨⟨⟨hnd, hall⟩, hlast⟩, hback⟩ := hF
  have hop : ∀ (i : Nat) (o : Oper), l[i]? = some o → (∀ t ∈ o.looksAt (l ++ [o0]).toArray, ∀ (j : Nat) (u : Oper), l[j]? = some u → u.dst = some t → ∃ e ∈ o.after, Region.binds .any e = true ∧ e.on = j) ∧ (∀ e ∈ o.after, Region.binds .any e = true → e.on < i) := by
    intro i o hi
    have := hall (o, i) (List.mem_zipIdx_iff_getElem?.2 hi)
    simp only [Bool.and_eq_true, List.all_eq_true] at this
    obtain ⟨h1, h2⟩ := this
    refine ⟨fun t ht j u hj hu => ?_, fun e he hb => ?_⟩
    · have := h1 t ht (u, j) (List.mem_zipIdx_iff_getElem?.2 hj)
      simp [hu] at this
      obtain ⟨i', hi', e1, e2⟩ := this
      exact ⟨_, Array.getElem_mem hi', e1, e2⟩
    · have := Array.all_eq_true_iff_forall_mem.1 h2 e he
      simpa [hb] using this
  have hl0 : ∀ j, j < l.length → ∃ e ∈ o0.after, Region.binds .any e = true ∧ e.on = j := fun j hj => by
    have := hlast j (List.mem_range.2 hj)
    simp at this
    obtain ⟨i', hi', e1, e2⟩ := this
    exact ⟨_, Array.getElem_mem hi', e1, e2⟩
  have hb0 : ∀ e ∈ o0.after, Region.binds .any e = true → e.on < l.length := fun e he hb => by
    have := Array.all_eq_true_iff_forall_mem.1 hback e he
    simpa [hb] using this
  have hmi : ∀ i, i < l.length → (l ++ [o0])[i]? = l[i]? := fun i hi => List.getElem?_append_left hi
  have hml : (l ++ [o0])[l.length]? = some o0 := by simp
  have hB' : ∀ o ∈ l ++ [o0], operB n (l ++ [o0]).toArray o = true := by
    intro o ho
    have : (l ++ [o0]).toArray.toList.all (operB n (l ++ [o0]).toArray) = true := hB
    rw [List.all_eq_true] at this
    exact this o (by simpa using ho)
  have main : ∀ (fuel : Nat) (s : Array Bool) (g : Nat → Value) (w : World), FlowInvT C f l Ψ s g w → s.toList.countP unset ≤ fuel → wpAny P .any (l ++ [o0]).toArray (fun e a w => ∃ f, a = Fa n f ∧ Q e f w) fuel s (Fa n g) w := by
    intro fuel
    induction fuel with
    | zero =>
      intro s g w inv hc
      exfalso
      obtain ⟨h1, h2⟩ := Array.getElem?_eq_some_iff.1 inv.last
      have := List.countP_pos_iff (p := unset).2 ⟨false, (by rw [← h2]; simp : false ∈ s.toList), rfl⟩
      omega
    | succ fuel ih =>
      intro s g w inv hc
      refine ⟨fun hr => ?_, fun i hi => ?_⟩
      · exfalso
        have hls : ∀ i, i < l.length → s[i]? = some true := by
          intro i
          induction i using Nat.strongRecOn with
          | _ i ih =>
            intro hi
            have his : i < s.size := by rw [inv.size]; omega
            cases hv : s[i] with
            | true => simp [his, hv]
            | false =>
              exfalso
              have : i ∈ Region.ready .any (l ++ [o0]).toArray s := mem_ready.2 ⟨by simp [Array.getD, his, hv], l[i], by simpa [hi] using hmi i hi, fun e he hb => by
                have hlt := (hop i l[i] (by simp [hi])).2 e he hb
                obtain ⟨h1, h2⟩ := Array.getElem?_eq_some_iff.1 (ih e.on hlt (by omega))
                simp [Array.getD, h1, h2]⟩
              rw [hr] at this
              cases this
        obtain ⟨h1, h2⟩ := Array.getElem?_eq_some_iff.1 inv.last
        have : l.length ∈ Region.ready .any (l ++ [o0]).toArray s := mem_ready.2 ⟨by simp [Array.getD, h1, h2], o0, by simp, fun e he hb => by
          obtain ⟨h3, h4⟩ := Array.getElem?_eq_some_iff.1 (hls e.on (hb0 e he hb))
          simp [Array.getD, h3, h4]⟩
        rw [hr] at this
        cases this
      · obtain ⟨hun, o, ho, hed⟩ := mem_ready.1 hi
        have hom' : (l ++ [o0])[i]? = some o := by simpa using ho
        have hom : o ∈ l ++ [o0] := List.mem_of_getElem? hom'
        have his : i < s.size := by
          rcases Nat.lt_or_ge i s.size with h | h
          · exact h
          · have hn : ¬ i < s.size := by omega
            simp [Array.getD, hn] at hun
        have hfalse : s[i] = false := by simpa [Array.getD, his] using hun
        have hcount : (s.setIfInBounds i true).toList.countP unset ≤ fuel := by
          have e1 : unset (s.toList[i]'(by simpa using his)) = true := by simp [unset, hfalse]
          have h0 : 0 < s.toList.countP unset := List.countP_pos_iff.2 ⟨s.toList[i]'(by simpa using his), List.getElem_mem _, e1⟩
          rw [Array.toList_setIfInBounds, List.countP_set (by simpa using his), if_pos e1, if_neg (by simp [unset])]
          omega
        by_cases hil : i < l.length
        · have hol : l[i]? = some o := (hmi i hil).symm.trans hom'
          have hol' : o ∈ l := List.mem_of_getElem? hol
          have hob := h.mem o hol' g w inv.cls (fun t ht => ⟨fun htd => by
            obtain ⟨u, hu, hut⟩ := List.mem_filterMap.1 htd
            obtain ⟨j, hj, he⟩ := List.getElem_of_mem hu
            have hj' : l[j]? = some u := by simp [hj, he]
            obtain ⟨e, he1, he2, he3⟩ := (hop i o hol).1 t ht j u hj' hut
            have := hed e he1 he2
            rw [he3] at this
            refine inv.done j u t hj' ?_ hut
            have hjs : j < s.size := by rw [inv.size]; omega
            simp [Array.getD, hjs] at this
            simp [hjs, this], inv.out t⟩)
          have next : ∀ v w', Bel w.heap.size w w' → (∀ d, o.dst = some d → Ψ d v w') → FlowInvT C f l Ψ (s.setIfInBounds i true) (updo g o.dst v) w' := by
            intro v w' hbel hv
            refine ⟨by simp [inv.size], ?_, hC w w' inv.cls hbel, fun j u d hj hs hu => ?_, fun t ht => ?_⟩
            · rw [Array.getElem?_setIfInBounds_ne (by omega)]; exact inv.last
            · by_cases hji : j = i
              · subst hji
                rw [hol] at hj
                simp at hj; subst hj
                rw [hu]
                simp only [updo, upd_same]
                exact hv d hu
              · have hs' : s[j]? = some true := by rw [Array.getElem?_setIfInBounds_ne (Ne.symm hji)] at hs; exact hs
                have hne : o.dst ≠ some d := fun e => hji (dst_unique hnd hj hol hu e)
                have := hΨ d _ w w' inv.cls hbel (inv.done j u d hj hs' hu)
                cases hod : o.dst with
                | none => exact this
                | some d' =>
                  simp only [updo]
                  rw [upd_other g v (fun e => hne (by rw [hod, e]))]
                  exact this
            · cases hod : o.dst with
              | none => exact inv.out t ht
              | some d' =>
                simp only [updo]
                rw [upd_other g v (fun e => ht (List.mem_filterMap.2 ⟨o, hol', by rw [hod, e]⟩))]
                exact inv.out t ht
          unfold wpOp
          simp only [ho]
          rw [Fa_wanted (hB' o hom)]
          split
          · rename_i hw
            rw [if_pos hw] at hob
            refine Or.inl ?_
            unfold Oper.wp
            rw [Fa_exec (hB' o hom)]
            unfold opk at hob
            generalize (execOp (ev g) o).run P w = r at hob
            cases r with
            | ok nx w' =>
              cases nx <;> simp only at hob <;> simp only [Oper.upon]
              case value v =>
                obtain ⟨v', e, hbel, hv⟩ := hob
                rw [Fa_put, e]
                exact ih _ _ _ (next v' w' hbel hv) hcount
              case skip =>
                obtain ⟨v', e, hbel, hv⟩ := hob
                rw [Fa_put, e]
                exact ih _ _ _ (next v' w' hbel hv) hcount
              case enter fn args =>
                refine Calls.mono hob fun e w'' ⟨v, he, v', e', hbel, hv⟩ => ?_
                subst he
                show wpAny P .any (l ++ [o0]).toArray _ fuel _ ((Fa n g).put o.dst v) w''
                rw [Fa_put, e']
                exact ih _ _ _ (next v' w'' hbel hv) hcount
            | halt x w' => exact hob.elim
          · rename_i hw
            rw [if_neg hw] at hob
            rw [Fa_put]
            exact ih _ _ _ (next undef w (Bel.refl _ _) hob) hcount
        · have hieq : i = l.length := by have := inv.size; omega
          subst hieq
          rw [hml] at hom'
          simp at hom'
          subst hom'
          have hls : ∀ j, j < l.length → s[j]? = some true := fun j hj => by
            obtain ⟨e, he1, he2, he3⟩ := hl0 j hj
            have := hed e he1 he2
            rw [he3] at this
            have hjs : j < s.size := by omega
            simp [Array.getD, hjs] at this
            simp [hjs, this]
          have hk := k g w inv.cls (fun d hd => by
            obtain ⟨u, hu, hd'⟩ := List.mem_filterMap.1 hd
            obtain ⟨j, hj, he⟩ := List.getElem_of_mem hu
            exact inv.done j u d (by simp [hj, he]) (hls j hj) hd') inv.out
          have hdone : Region.ready .any (l ++ [o0]).toArray (s.setIfInBounds l.length true) = [] := by
            cases hr : Region.ready .any (l ++ [o0]).toArray (s.setIfInBounds l.length true) with
            | nil => rfl
            | cons j r =>
              exfalso
              obtain ⟨h1, o', h2, _⟩ := mem_ready.1 (show j ∈ Region.ready .any (l ++ [o0]).toArray (s.setIfInBounds l.length true) by rw [hr]; simp)
              have hj : j < l.length + 1 := by have := (Array.getElem?_eq_some_iff.1 h2).1; simpa using this
              by_cases hjl : j < l.length
              · have e1 := hls j hjl
                have : (s.setIfInBounds l.length true)[j]? = some true := by rw [Array.getElem?_setIfInBounds_ne (by omega)]; exact e1
                obtain ⟨a1, a2⟩ := Array.getElem?_eq_some_iff.1 this
                simp only [Array.getD] at h1
                rw [dif_pos a1] at h1
                simp [a2] at h1
              · have hjj : j = l.length := by omega
                subst hjj
                have : (s.setIfInBounds l.length true)[l.length]? = some true := Array.getElem?_setIfInBounds_self_of_lt his
                obtain ⟨a1, a2⟩ := Array.getElem?_eq_some_iff.1 this
                simp only [Array.getD] at h1
                rw [dif_pos a1] at h1
                simp [a2] at h1
          have hfin : ∀ g' w', Q .normal g' w' → wpAny P .any (l ++ [o0]).toArray (fun e a w => ∃ f, a = Fa n f ∧ Q e f w) fuel (s.setIfInBounds l.length true) (Fa n g') w' := by
            intro g' w' hq
            cases fuel with
            | zero => exact ⟨hdone, g', rfl, hq⟩
            | succ fuel => exact ⟨fun _ => ⟨g', rfl, hq⟩, fun i hi => by rw [hdone] at hi; cases hi⟩
          unfold wpOp
          simp only [ho]
          rw [Fa_wanted (hB' o0 hom)]
          unfold sw at hk
          split
          · rename_i hw
            rw [if_pos hw] at hk
            refine Or.inl ?_
            unfold Oper.wp
            rw [Fa_exec (hB' o0 hom)]
            unfold opk at hk
            generalize (execOp (ev g) o0).run P w = r at hk
            cases r with
            | ok nx w' =>
              cases nx <;> simp only at hk <;> simp only [Oper.upon]
              case value v => rw [Fa_put]; exact hfin _ _ hk
              case skip => rw [Fa_put]; exact hfin _ _ hk
              case enter fn args =>
                refine Calls.mono hk fun e w'' ⟨v, he, hq⟩ => ?_
                subst he
                show wpAny P .any (l ++ [o0]).toArray _ fuel _ ((Fa n g).put o0.dst v) w''
                rw [Fa_put]
                exact hfin _ _ hq
            | halt x w' => exact hk.elim
          · rename_i hw
            rw [if_neg hw] at hk
            rw [Fa_put]
            exact hfin _ _ hk
  intro w hw
  refine wp_region_any hm ?_
  refine main _ _ f w.drew ⟨by simp, by simp, hC w _ hw ((Bel.refl _ _).drew), fun i o d hi hs hd => ?_, fun _ _ => rfl⟩ ?_
  · rw [Array.getElem?_replicate] at hs
    split at hs <;> simp at hs
  · have := List.countP_le_length (p := unset) (l := (Array.replicate (l ++ [o0]).toArray.size false).toList)
    simpa using this
end
end Go.Proofs.Ytbgnmapmiobjcaa
