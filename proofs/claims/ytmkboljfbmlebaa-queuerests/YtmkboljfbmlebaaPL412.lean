/- What queueRests_holds stands on, part 12: each part says what it proves. No condition beside those that it names. -/
import Derived.Test.YtmkboljfbmlebaaPL411
/- What the law QueueRests goes through, turn by turn. No condition. -/
namespace Go.Proofs.Ytmkboljfbmlebaa
open Go.RowKit
set_option linter.unusedSimpArgs false
set_option linter.unusedVariables false

structure KF where
  k : Nat
  F : Addr → Value → Prop
theorem rest_may {c : H} {ps : List PayS} {b i : Int} {r : List Int} {p : PayS} (hn : firstM c ps b = none) (hq : queueM ps b = i :: r) (hp : ps[i.toNat]? = some p) : maySendM c b p.dst p.amt = false := by
  cases hm : maySendM c b p.dst p.amt
  · rfl
  · rw [firstM_yes hq hp hm] at hn; cases hn
theorem mayM_core (h : H) (a b n : Int) : mayM h.core a b n = mayM h a b n := rfl
theorem may_of_core {h : H} (g : GoodH h.core) (a b n : Int) : mayM h a b n = maySendM h.core a b n := (mayM_core h a b n).symm.trans (may_eq g a b n)
/-- one payment after the other, as the law does them again -/
structure RG where
  k : Nat
  F : Addr → Value → Prop
  y : H
  ps : List PayS
structure RgOk (F0 : Addr → Value → Prop) (S : QS) (pl : Nat) (t : RG) : Prop where
  more : More F0 t.F
  pays : PaysIn t.F t.y.pa t.y.pl t.ps
  lc : t.y.pl ≤ t.y.pc
  len : t.y.pl = pl
  chain : Chain t.y.core t.ps (S.xs.drop t.k)
  endC : chainC t.y.core t.ps (S.xs.drop t.k) = S.c
  endP : chainP t.ps (S.xs.drop t.k) = S.ps
  room : Room t.k t.y.core
  good : GoodPs t.ps
  le : t.k ≤ S.xs.length
  seqs : SeqsApart t.ps
theorem RgOk.step {F0 : Addr → Value → Prop} {S : QS} {pl : Nat} {t : RG} (o : RgOk F0 S pl t) (hl : S.xs.length ≤ 24) {n : Int} (hn : S.xs[t.k]? = some n) :
    ∃ p r, 0 ≤ n ∧ n < pl ∧ t.ps[n.toNat]? = some p ∧ settles t.ps n = some p ∧ queueM t.ps p.src = n :: r ∧ mayM t.y p.src p.dst p.amt = true ∧ S.xs.drop t.k = n :: S.xs.drop (t.k + 1) := by
  have hk : t.k < S.xs.length := (List.getElem?_eq_some_iff.1 hn).1
  have hd : S.xs.drop t.k = n :: S.xs.drop (t.k + 1) := by rw [List.drop_eq_getElem_cons hk]; congr 1; exact (List.getElem?_eq_some_iff.1 hn).2
  have hc := o.chain
  rw [hd] at hc
  obtain ⟨⟨b, _, hf⟩, _⟩ := hc
  obtain ⟨p, r, h1, h2, h3, h4⟩ := firstM_spec hf
  obtain ⟨s0, s1, _⟩ := settles_spec h2
  have hlt := (List.getElem?_eq_some_iff.1 s1).1
  have e1 := o.pays.1
  have e2 := o.len
  refine ⟨p, r, s0, by omega, s1, h2, by rw [h3]; exact h1, ?_, hd⟩
  rw [may_of_core (o.room.good (by have := o.le; omega)), h3]; exact h4
theorem RgOk.next {F0 F' : Addr → Value → Prop} {S : QS} {pl : Nat} {t : RG} (o : RgOk F0 S pl t) (hl : S.xs.length ≤ 24) {n : Int} {p : PayS} (hd : S.xs.drop t.k = n :: S.xs.drop (t.k + 1)) (hs : settles t.ps n = some p) (hF : More t.F F') {h' : H} (hc : h'.core = settleC t.y.core t.ps n) (hlc : h'.pl ≤ h'.pc) (hp : PaysIn F' h'.pa h'.pl (settleP t.ps n)) :
    RgOk F0 S pl ⟨t.k + 1, F', h', settleP t.ps n⟩ := by
  have c1 := o.chain
  have c2 := o.endC
  have c3 := o.endP
  rw [hd] at c1 c2 c3
  have hk : t.k < S.xs.length := by
    rcases Nat.lt_or_ge t.k S.xs.length with h | h
    · exact h
    · rw [List.drop_eq_nil_of_le h] at hd; cases hd
  refine ⟨fun a v h => hF a v (o.more a v h), hp, hlc, ?_, ?_, ?_, c3, ?_, settleP_good o.good n, by simp only; omega, o.seqs.settle n⟩
  · simp only; rw [← hp.1, settleP_len, o.pays.1, o.len]
  · simp only; rw [hc]; exact c1.2
  · simp only; rw [hc]; exact c2
  · simp only
    rw [hc]
    have e : settleC t.y.core t.ps n = moveM t.y.core p.src p.dst p.amt := by simp only [settleC, hs]
    rw [e]
    have := o.room.move (by omega) (by omega) (pay_transfer (o.good p (List.mem_of_getElem? (settles_spec hs).2.1)))
    have e2 : ((t.k + 1 : Nat) : Int) = (t.k : Int) + 1 := by omega
    rw [e2]; exact this
theorem RgOk.fin {F0 : Addr → Value → Prop} {S : QS} {pl : Nat} {t : RG} (o : RgOk F0 S pl t) (hk : ¬ (t.k : Int) < S.xs.length) : t.y.core = S.c ∧ t.ps = S.ps := by
  have c2 := o.endC
  have c3 := o.endP
  rw [List.drop_eq_nil_of_le (by omega)] at c2 c3
  exact ⟨c2, c3⟩
theorem rg_start {w : World} {F : Addr → Value → Prop} {h : H} {ps : List PayS} (hg : goodB h.core ps = true) (hr : roomyB h.core = true) (hp : PaysIn F h.pa h.pl ps) (hlc : h.pl ≤ h.pc) : RgOk F (sweepM h.core ps) h.pl ⟨0, F, h, ps⟩ := by
  obtain ⟨c1, c2, c3⟩ := sweepM_goes hg
  exact ⟨fun _ _ h => h, hp, hlc, rfl, c1, c2.symm, c3.symm, room_of (good_of hg) hr, (good_pays hg).1, Nat.zero_le _, (good_pays hg).2.1⟩
theorem core_acc {h k : H} (hc : h.core = k.core) : accL h.has h.cred = accL k.has k.cred ∧ matL h.sent = matL k.sent := by
  have e1 : h.has = k.has := show h.core.has = k.core.has by rw [hc]
  have e2 : h.cred = k.cred := show h.core.cred = k.core.cred by rw [hc]
  have e3 : h.sent = k.sent := show h.core.sent = k.core.sent by rw [hc]
  rw [e1, e2, e3]; exact ⟨rfl, rfl⟩
theorem sum_core (h : H) : sumM h.core = sumM h := rfl
end Go.Proofs.Ytmkboljfbmlebaa
/- A region that draws its order, as before, with one operation behind all the others that may write. No condition. -/
namespace Go.Proofs.Ytmkboljfbmlebaa
open Go.RowKit
set_option linter.unusedSimpArgs false
set_option linter.unusedVariables false

def flowTB (md : Region.Mode) (l : List Oper) (o0 : Oper) : Bool :=
  (dstsOf l).Nodup && (l.zipIdx.all fun (o, i) => (o.looksAt (l ++ [o0]).toArray).all (fun t => l.zipIdx.all fun (u, j) => !(u.dst == some t) || o.after.any (fun e => Region.binds md e && e.on == j)) && o.after.all (fun e => !Region.binds md e || decide (e.on < i))) &&
  (List.range l.length).all (fun j => o0.after.any fun e => Region.binds md e && e.on == j) && o0.after.all (fun e => !Region.binds md e || decide (e.on < l.length))
section
variable {P : Program} {n : Nat} {C : World → Prop} {f : Nat → Value} {l : List Oper} {o0 : Oper} {Ψ : Nat → Value → World → Prop} {Q : Exit → (Nat → Value) → World → Prop}
def ObT (P : Program) (C : World → Prop) (f : Nat → Value) (l : List Oper) (o0 : Oper) (Ψ : Nat → Value → World → Prop) (o : Oper) : Prop :=
  ∀ g w, C w → (∀ t ∈ o.looksAt (l ++ [o0]).toArray, (t ∈ dstsOf l → Ψ t (g t) w) ∧ (t ∉ dstsOf l → g t = f t)) →
    if Region.wanted o (yf (l ++ [o0]).toArray g) then opk P o g w (fun g' w' => ∃ v, g' = updo g o.dst v ∧ Bel w.heap.size w w' ∧ ∀ d, o.dst = some d → Ψ d v w') else ∀ d, o.dst = some d → Ψ d undef w
def ObsT (P : Program) (C : World → Prop) (f : Nat → Value) (l : List Oper) (o0 : Oper) (Ψ : Nat → Value → World → Prop) : List Oper → Prop
  | [] => True
  | o :: r => ObT P C f l o0 Ψ o ∧ ObsT P C f l o0 Ψ r
theorem ObsT.mem {r : List Oper} (h : ObsT P C f l o0 Ψ r) : ∀ o ∈ r, ObT P C f l o0 Ψ o := by
  induction r with
  | nil => intro o ho; cases ho
  | cons x r ih =>
    intro o ho
    rcases List.mem_cons.1 ho with e | ho
    · rw [e]; exact h.1
    · exact ih h.2 o ho
structure FlowInvT (C : World → Prop) (f : Nat → Value) (l : List Oper) (Ψ : Nat → Value → World → Prop) (s : Array Bool) (g : Nat → Value) (w : World) : Prop where
  size : s.size = l.length + 1
  last : s[l.length]? = some false
  cls : C w
  done : ∀ (i : Nat) (o : Oper) (d : Nat), l[i]? = some o → s[i]? = some true → o.dst = some d → Ψ d (g d) w
  out : ∀ t, t ∉ dstsOf l → g t = f t
theorem d_flowT {id : Nat} (hm : P.follows .mixedOrders = true) (hB : opsB n (l ++ [o0]).toArray = true) (hF : flowTB .any l o0 = true) (hC : ∀ w w', C w → Bel w.heap.size w w' → C w')
    (hΨ : ∀ d v w w', C w → Bel w.heap.size w w' → Ψ d v w → Ψ d v w') (h : ObsT P C f l o0 Ψ l)
    (k : ∀ g w, C w → (∀ d ∈ dstsOf l, Ψ d (g d) w) → (∀ t, t ∉ dstsOf l → g t = f t) → sw P (l ++ [o0]).toArray (fun f w => Q .normal f w) [o0] g w) : cC P n (.region id (l ++ [o0]).toArray true) Q f C := by
  simp only [flowTB, Bool.and_eq_true, decide_eq_true_eq, List.all_eq_true] at hF
  obtain ⟨⟨⟨hnd, hall⟩, hlast⟩, hback⟩ := hF
  have hop : ∀ (i : Nat) (o : Oper), l[i]? = some o → (∀ t ∈ o.looksAt (l ++ [o0]).toArray, ∀ (j : Nat) (u : Oper), l[j]? = some u → u.dst = some t → ∃ e ∈ o.after, Region.binds .any e = true ∧ e.on = j) ∧ (∀ e ∈ o.after, Region.binds .any e = true → e.on < i) := by
    intro i o hi
    have := hall (o, i) (List.mem_zipIdx_iff_getElem?.2 hi)
    simp only [Bool.and_eq_true, List.all_eq_true] at this
    obtain ⟨h1, h2⟩ := this
    refine ⟨fun t ht j u hj hu => ?_, fun e he hb => ?_⟩
    · have := h1 t ht (u, j) (List.mem_zipIdx_iff_getElem?.2 hj)
      simp [hu] at this
      obtain ⟨i', hi', e1, e2⟩ := this
      exact ⟨_, Array.getElem_mem hi', e1, e2⟩
    · have := Array.all_eq_true_iff_forall_mem.1 h2 e he
      simpa [hb] using this
  have hl0 : ∀ j, j < l.length → ∃ e ∈ o0.after, Region.binds .any e = true ∧ e.on = j := fun j hj => by
    have := hlast j (List.mem_range.2 hj)
    simp at this
    obtain ⟨i', hi', e1, e2⟩ := this
    exact ⟨_, Array.getElem_mem hi', e1, e2⟩
  have hb0 : ∀ e ∈ o0.after, Region.binds .any e = true → e.on < l.length := fun e he hb => by
    have := Array.all_eq_true_iff_forall_mem.1 hback e he
    simpa [hb] using this
  have hmi : ∀ i, i < l.length → (l ++ [o0])[i]? = l[i]? := fun i hi => List.getElem?_append_left hi
  have hml : (l ++ [o0])[l.length]? = some o0 := by simp
  have hB' : ∀ o ∈ l ++ [o0], operB n (l ++ [o0]).toArray o = true := by
    intro o ho
    have : (l ++ [o0]).toArray.toList.all (operB n (l ++ [o0]).toArray) = true := hB
    rw [List.all_eq_true] at this
    exact this o (by simpa using ho)
  have main : ∀ (fuel : Nat) (s : Array Bool) (g : Nat → Value) (w : World), FlowInvT C f l Ψ s g w → s.toList.countP unset ≤ fuel → wpAny P .any (l ++ [o0]).toArray (fun e a w => ∃ f, a = Fa n f ∧ Q e f w) fuel s (Fa n g) w := by
    intro fuel
    induction fuel with
    | zero =>
      intro s g w inv hc
      exfalso
      obtain ⟨h1, h2⟩ := Array.getElem?_eq_some_iff.1 inv.last
      have := List.countP_pos_iff (p := unset).2 ⟨false, (by rw [← h2]; simp : false ∈ s.toList), rfl⟩
      omega
    | succ fuel ih =>
      intro s g w inv hc
      refine ⟨fun hr => ?_, fun i hi => ?_⟩
      · exfalso
        have hls : ∀ i, i < l.length → s[i]? = some true := by
          intro i
          induction i using Nat.strongRecOn with
          | _ i ih =>
            intro hi
            have his : i < s.size := by rw [inv.size]; omega
            cases hv : s[i] with
            | true => simp [his, hv]
            | false =>
              exfalso
              have : i ∈ Region.ready .any (l ++ [o0]).toArray s := mem_ready.2 ⟨by simp [Array.getD, his, hv], l[i], by simpa [hi] using hmi i hi, fun e he hb => by
                have hlt := (hop i l[i] (by simp [hi])).2 e he hb
                obtain ⟨h1, h2⟩ := Array.getElem?_eq_some_iff.1 (ih e.on hlt (by omega))
                simp [Array.getD, h1, h2]⟩
              rw [hr] at this
              cases this
        obtain ⟨h1, h2⟩ := Array.getElem?_eq_some_iff.1 inv.last
        have : l.length ∈ Region.ready .any (l ++ [o0]).toArray s := mem_ready.2 ⟨by simp [Array.getD, h1, h2], o0, by simp, fun e he hb => by
          obtain ⟨h3, h4⟩ := Array.getElem?_eq_some_iff.1 (hls e.on (hb0 e he hb))
          simp [Array.getD, h3, h4]⟩
        rw [hr] at this
        cases this
      · obtain ⟨hun, o, ho, hed⟩ := mem_ready.1 hi
        have hom' : (l ++ [o0])[i]? = some o := by simpa using ho
        have hom : o ∈ l ++ [o0] := List.mem_of_getElem? hom'
        have his : i < s.size := by
          rcases Nat.lt_or_ge i s.size with h | h
          · exact h
          · have hn : ¬ i < s.size := by omega
            simp [Array.getD, hn] at hun
        have hfalse : s[i] = false := by simpa [Array.getD, his] using hun
        have hcount : (s.setIfInBounds i true).toList.countP unset ≤ fuel := by
          have e1 : unset (s.toList[i]'(by simpa using his)) = true := by simp [unset, hfalse]
          have h0 : 0 < s.toList.countP unset := List.countP_pos_iff.2 ⟨s.toList[i]'(by simpa using his), List.getElem_mem _, e1⟩
          rw [Array.toList_setIfInBounds, List.countP_set (by simpa using his), if_pos e1, if_neg (by simp [unset])]
          omega
        by_cases hil : i < l.length
        · have hol : l[i]? = some o := (hmi i hil).symm.trans hom'
          have hol' : o ∈ l := List.mem_of_getElem? hol
          have hob := h.mem o hol' g w inv.cls (fun t ht => ⟨fun htd => by
            obtain ⟨u, hu, hut⟩ := List.mem_filterMap.1 htd
            obtain ⟨j, hj, he⟩ := List.getElem_of_mem hu
            have hj' : l[j]? = some u := by simp [hj, he]
            obtain ⟨e, he1, he2, he3⟩ := (hop i o hol).1 t ht j u hj' hut
            have := hed e he1 he2
            rw [he3] at this
            refine inv.done j u t hj' ?_ hut
            have hjs : j < s.size := by rw [inv.size]; omega
            simp [Array.getD, hjs] at this
            simp [hjs, this], inv.out t⟩)
          have next : ∀ v w', Bel w.heap.size w w' → (∀ d, o.dst = some d → Ψ d v w') → FlowInvT C f l Ψ (s.setIfInBounds i true) (updo g o.dst v) w' := by
            intro v w' hbel hv
            refine ⟨by simp [inv.size], ?_, hC w w' inv.cls hbel, fun j u d hj hs hu => ?_, fun t ht => ?_⟩
            · rw [Array.getElem?_setIfInBounds_ne (by omega)]; exact inv.last
            · by_cases hji : j = i
              · subst hji
                rw [hol] at hj
                simp at hj; subst hj
                rw [hu]
                simp only [updo, upd_same]
                exact hv d hu
              · have hs' : s[j]? = some true := by rw [Array.getElem?_setIfInBounds_ne (Ne.symm hji)] at hs; exact hs
                have hne : o.dst ≠ some d := fun e => hji (dst_unique hnd hj hol hu e)
                have := hΨ d _ w w' inv.cls hbel (inv.done j u d hj hs' hu)
                cases hod : o.dst with
                | none => exact this
                | some d' =>
                  simp only [updo]
                  rw [upd_other g v (fun e => hne (by rw [hod, e]))]
                  exact this
            · cases hod : o.dst with
              | none => exact inv.out t ht
              | some d' =>
                simp only [updo]
                rw [upd_other g v (fun e => ht (List.mem_filterMap.2 ⟨o, hol', by rw [hod, e]⟩))]
                exact inv.out t ht
          unfold wpOp
          simp only [ho]
          rw [Fa_wanted (hB' o hom)]
          split
          · rename_i hw
            rw [if_pos hw] at hob
            refine Or.inl ?_
            unfold Oper.wp
            rw [Fa_exec (hB' o hom)]
            unfold opk at hob
            generalize (execOp (ev g) o).run P w = r at hob
            cases r with
            | ok nx w' =>
              cases nx <;> simp only at hob <;> simp only [Oper.upon]
              case value v =>
                obtain ⟨v', e, hbel, hv⟩ := hob
                rw [Fa_put, e]
                exact ih _ _ _ (next v' w' hbel hv) hcount
              case skip =>
                obtain ⟨v', e, hbel, hv⟩ := hob
                rw [Fa_put, e]
                exact ih _ _ _ (next v' w' hbel hv) hcount
              case enter fn args =>
                refine Calls.mono hob fun e w'' ⟨v, he, v', e', hbel, hv⟩ => ?_
                subst he
                show wpAny P .any (l ++ [o0]).toArray _ fuel _ ((Fa n g).put o.dst v) w''
                rw [Fa_put, e']
                exact ih _ _ _ (next v' w'' hbel hv) hcount
            | halt x w' => exact hob.elim
          · rename_i hw
            rw [if_neg hw] at hob
            rw [Fa_put]
            exact ih _ _ _ (next undef w (Bel.refl _ _) hob) hcount
        · have hieq : i = l.length := by have := inv.size; omega
          subst hieq
          rw [hml] at hom'
          simp at hom'
          subst hom'
          have hls : ∀ j, j < l.length → s[j]? = some true := fun j hj => by
            obtain ⟨e, he1, he2, he3⟩ := hl0 j hj
            have := hed e he1 he2
            rw [he3] at this
            have hjs : j < s.size := by omega
            simp [Array.getD, hjs] at this
            simp [hjs, this]
          have hk := k g w inv.cls (fun d hd => by
            obtain ⟨u, hu, hd'⟩ := List.mem_filterMap.1 hd
            obtain ⟨j, hj, he⟩ := List.getElem_of_mem hu
            exact inv.done j u d (by simp [hj, he]) (hls j hj) hd') inv.out
          have hdone : Region.ready .any (l ++ [o0]).toArray (s.setIfInBounds l.length true) = [] := by
            cases hr : Region.ready .any (l ++ [o0]).toArray (s.setIfInBounds l.length true) with
            | nil => rfl
            | cons j r =>
              exfalso
              obtain ⟨h1, o', h2, _⟩ := mem_ready.1 (show j ∈ Region.ready .any (l ++ [o0]).toArray (s.setIfInBounds l.length true) by rw [hr]; simp)
              have hj : j < l.length + 1 := by have := (Array.getElem?_eq_some_iff.1 h2).1; simpa using this
              by_cases hjl : j < l.length
              · have e1 := hls j hjl
                have : (s.setIfInBounds l.length true)[j]? = some true := by rw [Array.getElem?_setIfInBounds_ne (by omega)]; exact e1
                obtain ⟨a1, a2⟩ := Array.getElem?_eq_some_iff.1 this
                simp only [Array.getD] at h1
                rw [dif_pos a1] at h1
                simp [a2] at h1
              · have hjj : j = l.length := by omega
                subst hjj
                have : (s.setIfInBounds l.length true)[l.length]? = some true := Array.getElem?_setIfInBounds_self_of_lt his
                obtain ⟨a1, a2⟩ := Array.getElem?_eq_some_iff.1 this
                simp only [Array.getD] at h1
                rw [dif_pos a1] at h1
                simp [a2] at h1
          have hfin : ∀ g' w', Q .normal g' w' → wpAny P .any (l ++ [o0]).toArray (fun e a w => ∃ f, a = Fa n f ∧ Q e f w) fuel (s.setIfInBounds l.length true) (Fa n g') w' := by
            intro g' w' hq
            cases fuel with
            | zero => exact ⟨hdone, g', rfl, hq⟩
            | succ fuel => exact ⟨fun _ => ⟨g', rfl, hq⟩, fun i hi => by rw [hdone] at hi; cases hi⟩
          unfold wpOp
          simp only [ho]
          rw [Fa_wanted (hB' o0 hom)]
          unfold sw at hk
          split
          · rename_i hw
            rw [if_pos hw] at hk
            refine Or.inl ?_
            unfold Oper.wp
            rw [Fa_exec (hB' o0 hom)]
            unfold opk at hk
            generalize (execOp (ev g) o0).run P w = r at hk
            cases r with
            | ok nx w' =>
              cases nx <;> simp only at hk <;> simp only [Oper.upon]
              case value v => rw [Fa_put]; exact hfin _ _ hk
              case skip => rw [Fa_put]; exact hfin _ _ hk
              case enter fn args =>
                refine Calls.mono hk fun e w'' ⟨v, he, hq⟩ => ?_
                subst he
                show wpAny P .any (l ++ [o0]).toArray _ fuel _ ((Fa n g).put o0.dst v) w''
                rw [Fa_put]
                exact hfin _ _ hq
            | halt x w' => exact hk.elim
          · rename_i hw
            rw [if_neg hw] at hk
            rw [Fa_put]
            exact hfin _ _ hk
  intro w hw
  refine wp_region_any hm ?_
  refine main _ _ f w.drew ⟨by simp, by simp, hC w _ hw ((Bel.refl _ _).drew), fun i o d hi hs hd => ?_, fun _ _ => rfl⟩ ?_
  · rw [Array.getElem?_replicate] at hs
    split at hs <;> simp at hs
  · have := List.countP_le_length (p := unset) (l := (Array.replicate (l ++ [o0]).toArray.size false).toList)
    simpa using this
end
end Go.Proofs.Ytmkboljfbmlebaa
/- A region that draws its order: operations that only read, a variable that is made at any time, and a write behind all. No condition. -/
namespace Go.Proofs.Ytmkboljfbmlebaa
open Go.RowKit
set_option linter.unusedSimpArgs false
set_option linter.unusedVariables false

/-- values only: nothing is called -/
def vw (P : Program) (ops : Array Oper) (C : World → Prop) (K : (Nat → Value) → Prop) : List Oper → (Nat → Value) → Prop
  | [], f => K f
  | o :: rest, f => if Region.wanted o (yf ops f) then ∃ v, (∀ w, C w → (execOp (ev f) o).run P w = .ok (.value v) w) ∧ vw P ops C K rest (updo f o.dst v) else vw P ops C K rest (updo f o.dst undef)
section
variable {P : Program} {ops : Array Oper} {C : World → Prop} {KQ : (Nat → Value) → Prop} {rest : List Oper} {f : Nat → Value} {d : Nat} {op : Op} {ty : TypeId} {pos : String} {af : Array Edge}
theorem u_val {v : Value} (h : Val P f C ⟨some d, op, ty, pos, af, none⟩ v) (k : vw P ops C KQ rest (upd f d v)) : vw P ops C KQ (⟨some d, op, ty, pos, af, none⟩ :: rest) f := by
  unfold vw
  rw [if_pos wanted_free]
  exact ⟨v, h.out, k⟩
theorem u_want {j s : Nat} {b g : Bool} {dst : Option Nat} (hj : (ops[j]?).bind (·.dst) = some s) (hs : f s = .bool g) (hg : g = b) (k : vw P ops C KQ (⟨dst, op, ty, pos, af, none⟩ :: rest) f) :
    vw P ops C KQ (⟨dst, op, ty, pos, af, some (j, b)⟩ :: rest) f := by
  unfold vw at k ⊢
  rw [if_pos wanted_free] at k
  rw [wanted_of hj hs, if_pos (by simp [hg])]
  exact k
theorem u_pass {j s : Nat} {b g : Bool} {dst : Option Nat} (hj : (ops[j]?).bind (·.dst) = some s) (hs : f s = .bool g) (hg : g = !b) (k : vw P ops C KQ rest (updo f dst undef)) :
    vw P ops C KQ (⟨dst, op, ty, pos, af, some (j, b)⟩ :: rest) f := by
  unfold vw
  rw [wanted_of hj hs, if_neg (by simp [hg])]
  exact k
theorem u_passU {j s : Nat} {b : Bool} {dst : Option Nat} (hj : (ops[j]?).bind (·.dst) = some s) (hs : f s = undef) (k : vw P ops C KQ rest (updo f dst undef)) :
    vw P ops C KQ (⟨dst, op, ty, pos, af, some (j, b)⟩ :: rest) f := by
  unfold vw
  rw [wanted_no hj hs, if_neg (by simp)]
  exact k
theorem u_end (h : KQ f) : vw P ops C KQ [] f := h

/-- what an operation comes to wherever its slots hold what they hold in the end -/
def Good1 (P : Program) (ops : Array Oper) (C : World → Prop) (f' : Nat → Value) (o : Oper) : Prop :=
  ∀ g : Nat → Value, (∀ t ∈ o.looksAt ops, g t = f' t) → ∃ v, (∀ d, o.dst = some d → f' d = v) ∧ if Region.wanted o (yf ops g) then (∀ w, C w → (execOp (ev g) o).run P w = .ok (.value v) w) else v = undef
def lookB (ops : Array Oper) : List Oper → Bool
  | [] => true
  | o :: r => (o.looksAt ops).all (fun t => !(dstsOf (o :: r)).contains t) && (match o.dst with | some d => !(dstsOf r).contains d | none => true) && (match o.op with | .select .. => false | _ => true) && lookB ops r
theorem ev_congr {f g : Nat → Value} {o : Oper} (hs : ∀ cs b, o.op ≠ .select cs b) (h : ∀ t ∈ o.looksAt ops, g t = f t) : execOp (ev g) o = execOp (ev f) o := by
  refine execOp_congr o hs fun x hx => ?_
  cases x with
  | tmp t => exact h t (List.mem_append_left _ (List.mem_filterMap.2 ⟨.tmp t, by simpa using hx, rfl⟩))
  | _ => rfl
theorem want_congr {f g : Nat → Value} {o : Oper} (h : ∀ t ∈ o.looksAt ops, g t = f t) : Region.wanted o (yf ops g) = Region.wanted o (yf ops f) := by
  unfold Region.wanted
  split
  · rfl
  · rename_i j b hg
    congr 1
    unfold yf
    cases hd : (ops[j]?).bind (·.dst) with
    | none => rfl
    | some d =>
      have : g d = f d := h d (List.mem_append_right _ (by simp [hg, hd]))
      simp only [this]
theorem vw_trace {K : (Nat → Value) → Prop} : ∀ (l : List Oper) (f : Nat → Value), lookB ops l = true → vw P ops C K l f → ∃ f', K f' ∧ (∀ t, t ∉ dstsOf l → f' t = f t) ∧ ∀ o ∈ l, Good1 P ops C f' o
  | [], f, _, h => ⟨f, h, fun _ _ => rfl, fun o ho => by cases ho⟩
  | o :: r, f, hB, h => by
    simp only [lookB, Bool.and_eq_true, List.all_eq_true] at hB
    obtain ⟨⟨⟨h1, h2⟩, h3⟩, h4⟩ := hB
    have hsel : ∀ cs b, o.op ≠ .select cs b := fun cs b e => by rw [e] at h3; cases h3
    have hd : ∀ d, o.dst = some d → d ∉ dstsOf r := fun d hd hm => by rw [hd] at h2; simp at h2; exact h2 hm
    have hlk : ∀ t ∈ o.looksAt ops, t ∉ dstsOf (o :: r) := fun t ht hm => by have := h1 t ht; simp at this; exact this hm
    have hsub : ∀ t, t ∉ dstsOf (o :: r) → t ∉ dstsOf r ∧ o.dst ≠ some t := fun t ht => by
      refine ⟨fun hm => ht ?_, fun e => ht ?_⟩
      · unfold dstsOf at hm ⊢
        obtain ⟨u, hu, he⟩ := List.mem_filterMap.1 hm
        exact List.mem_filterMap.2 ⟨u, List.mem_cons_of_mem _ hu, he⟩
      · exact List.mem_filterMap.2 ⟨o, List.mem_cons_self, e⟩
    have upo : ∀ (v : Value) (t : Nat), o.dst ≠ some t → updo f o.dst v t = f t := fun v t ht => by
      cases hod : o.dst with
      | none => rfl
      | some d => simp only [updo]; exact upd_other f v (fun e => ht (by rw [hod, e]))
    have fin : ∀ v, vw P ops C K r (updo f o.dst v) → (if Region.wanted o (yf ops f) then (∀ w, C w → (execOp (ev f) o).run P w = .ok (.value v) w) else v = undef) → ∃ f', K f' ∧ (∀ t, t ∉ dstsOf (o :: r) → f' t = f t) ∧ ∀ u ∈ o :: r, Good1 P ops C f' u := by
      intro v hq hv
      obtain ⟨f', e1, e2, e3⟩ := vw_trace r _ h4 hq
      have hag : ∀ t, t ∉ dstsOf (o :: r) → f' t = f t := fun t ht => (e2 t (hsub t ht).1).trans (upo v t (hsub t ht).2)
      refine ⟨f', e1, hag, fun u hu => ?_⟩
      rcases List.mem_cons.1 hu with rfl | hu
      · intro g hg
        have hgf : ∀ t ∈ u.looksAt ops, g t = f t := fun t ht => (hg t ht).trans (hag t (hlk t ht))
        refine ⟨v, fun d hdd => ?_, ?_⟩
        · rw [e2 d (hd d hdd), hdd]; simp only [updo, upd_same]
        · rw [want_congr hgf, ev_congr hsel hgf]; exact hv
      · exact e3 u hu
    unfold vw at h
    split at h
    · rename_i hw
      obtain ⟨v, hv, hq⟩ := h
      exact fin v hq (by rw [if_pos hw]; exact hv)
    · rename_i hw
      exact fin undef h (by rw [if_neg hw])
end
/-- reading, then a variable made, then a write: the variable may come up at any time -/
theorem a_list {P : Program} {n : Nat} {Q : Exit → (Nat → Value) → World → Prop} {f : Nat → Value} {w0 : World} {F : Addr → Value → Prop} {L : List (Nat × Obj)} {id k d T : Nat} {m : List Oper} {ty : TypeId} {pos : String} {af : Array Edge} {o0 : Oper} {z : Value}
    (hm : P.follows .mixedOrders = true) (hs : m.drop k = [Oper.mk (some d) (.alloc T) ty pos af none, o0]) (hB : opsB n m.toArray = true) (hF : flowTB .any (m.take k ++ [Oper.mk (some d) (.alloc T) ty pos af none]) o0 = true) (hL : lookB m.toArray (m.take k) = true)
    (hN : (m.take k).all (fun o => !(o.looksAt m.toArray).contains d) = true) (hz : (P.info? T).map (·.zero) = some (some z))
    (h : vw P m.toArray (Has w0 F L) (fun f' => ∀ b, sC P m.toArray (fun f w => Q .normal f w) [o0] (upd f' d (.pointer (some ⟨b, 0, none⟩))) (Has w0 F ((b, .cells z.cells T) :: L))) (m.take k) f) :
    cC P n (.region id m.toArray true) Q f (Has w0 F L) := by
  have hmm : m = (m.take k ++ [Oper.mk (some d) (.alloc T) ty pos af none]) ++ [o0] := by
    rw [List.append_assoc, List.singleton_append, ← hs, List.take_append_drop]
  obtain ⟨f', hK, hout, hgood⟩ := vw_trace (m.take k) f hL h
  generalize hl : m.take k = l at *
  have hds : dstsOf (l ++ [Oper.mk (some d) (.alloc T) ty pos af none]) = dstsOf l ++ [d] := by simp [dstsOf]
  have hnd : (dstsOf (l ++ [Oper.mk (some d) (.alloc T) ty pos af none])).Nodup := by
    simp only [flowTB, Bool.and_eq_true, decide_eq_true_eq] at hF; exact hF.1.1.1
  rw [hds] at hnd
  have hdl : d ∉ dstsOf l := fun hm => by rw [List.nodup_append] at hnd; exact hnd.2.2 d hm d (by simp) rfl
  clear hl hs
  subst hmm
  let Ψ : Nat → Value → World → Prop := fun e v w => if e = d then ∃ b, v = .pointer (some ⟨b, 0, none⟩) ∧ Has w0 F ((b, .cells z.cells T) :: L) w else v = f' e
  have obl : ∀ r : List Oper, (∀ o ∈ r, ObT P (Has w0 F L) f (l ++ [Oper.mk (some d) (.alloc T) ty pos af none]) o0 Ψ o) → ObsT P (Has w0 F L) f (l ++ [Oper.mk (some d) (.alloc T) ty pos af none]) o0 Ψ r := by
    intro r
    induction r with
    | nil => intro _; trivial
    | cons x r ih => intro h; exact ⟨h x (by simp), ih fun o ho => h o (by simp [ho])⟩
  refine d_flowT (Ψ := Ψ) hm hB hF (fun w w' hw hb => hw.below hb) ?_ (obl _ ?_) ?_
  · intro e v w w' _ hb hp
    simp only [Ψ] at hp ⊢
    split
    · rename_i he; rw [if_pos he] at hp; obtain ⟨b, h1, h2⟩ := hp; exact ⟨b, h1, h2.below hb⟩
    · rename_i he; rw [if_neg he] at hp; exact hp
  · intro o ho g w hw hlk
    rw [hds] at hlk
    rcases List.mem_append.1 ho with hol | hol
    · have hnd' : ∀ t ∈ o.looksAt ((l ++ [Oper.mk (some d) (.alloc T) ty pos af none]) ++ [o0]).toArray, t ≠ d := fun t ht e => by
        have := List.all_eq_true.1 hN o hol
        simp at this
        subst e
        exact this (by simpa using ht)
      obtain ⟨v, hv1, hv2⟩ := hgood o hol g (fun t ht => by
        have h1 := hlk t ht
        have hne := hnd' t ht
        by_cases hm : t ∈ dstsOf l
        · have := h1.1 (by simp [hm])
          simp only [Ψ, if_neg hne] at this
          exact this
        · rw [h1.2 (by simp [hm, hne]), hout t hm])
      have hod : ∀ d', o.dst = some d' → d' ≠ d := fun d' hd' e => hdl (by subst e; exact List.mem_filterMap.2 ⟨o, hol, hd'⟩)
      split
      · rename_i hwt
        rw [if_pos hwt] at hv2
        unfold opk
        rw [hv2 w hw]
        exact ⟨v, rfl, Bel.refl _ _, fun d' hd' => by simp only [Ψ, if_neg (hod d' hd')]; exact (hv1 d' hd').symm⟩
      · rename_i hwt
        rw [if_neg hwt] at hv2
        intro d' hd'
        simp only [Ψ, if_neg (hod d' hd')]
        rw [hv1 d' hd', hv2]
    · simp only [List.mem_singleton] at hol
      subst hol
      rw [if_pos wanted_free]
      unfold opk
      have hzr : ∀ w, (zeroValue T).run P w = .ok z w := by
        intro w
        cases hi : P.info? T with
        | none => simp [hi] at hz
        | some i => simp [hi] at hz; simp [zeroValue, typeInfo, hi, hz]
      have hr : (execOp (ev g) ⟨some d, .alloc T, ty, pos, af, none⟩).run P w = .ok (.value (.pointer (some ⟨w.heap.size, 0, none⟩))) (w.alloc (.cells z.cells T)) := by
        simp [execOp, Instr.alloc, hzr, newVar, newRow, newObj, Sem.run]
      rw [hr]
      exact ⟨_, rfl, (Bel.refl _ _).alloc (Nat.le_refl _) _, fun e he => by
        simp at he; subst he
        simp only [Ψ, if_true]
        exact ⟨_, rfl, hw.alloc _⟩⟩
  · intro g w hw hd he
    rw [hds] at hd he
    have h7 := hd d (by simp)
    simp only [Ψ, if_true] at h7
    obtain ⟨b, e1, e2⟩ := h7
    have hg : g = upd f' d (.pointer (some ⟨b, 0, none⟩)) := by
      funext t
      by_cases ht : t = d
      · subst ht; rw [upd_same]; exact e1
      · rw [upd_other f' _ ht]
        by_cases hm : t ∈ dstsOf l
        · have := hd t (by simp [hm])
          simp only [Ψ, if_neg ht] at this
          exact this
        · rw [he t (by simp [hm, ht]), hout t hm]
    rw [hg]
    exact hK b w e2
end Go.Proofs.Ytmkboljfbmlebaa
/- The law QueueRests. Condition: the payments lie in memory that is known. -/
namespace Go.Proofs.Ytmkboljfbmlebaa
open Go.RowKit
set_option linter.unusedSimpArgs false
set_option linter.unusedVariables false
set_option maxRecDepth 100000
attribute [local irreducible] cC sC nC rC qw

set_option maxHeartbeats 2000000 in
theorem law_QueueRests (h : H) (ps : List PayS) (w : World) (hp : PaysIn (At w) h.pa h.pl ps) (hb : h.pl * 48 ≤ 281474976710656) (hlc : h.pl ≤ h.pc) : Gives Try.prog 6 [.agg h.cells] w (.bool true) := by
  refine gives_of Try.func6 rfl Try.ntmps6 (by simp) ?_
  refine r_seq (by kernel_rfl) ?_
  refine s_box (v := .agg _) rfl (fun b1 => ?_)
  refine s_val (v_assign (v := .bool _) rfl) ?_
  refine s_nil ?_
  refine c_seq ?_
  refine r_seq (by kernel_rfl) ?_
  refine s_val (v_loadA (m := 42) (by kernel_rfl) rfl .here (H.size _)) ?_
  refine s_call (by kernel_rfl) (fun w hw => g_Good _ ps w (hp.at hw)) ?_
  refine s_val (v_not rfl) ?_
  refine s_val (v_move (v := .bool _) rfl) ?_
  refine s_splitN (s := 17) rfl (fun h17 => ?_) (fun h17 => ?_)
  · refine s_pass rfl rfl (congrArg not h17) ?_
    refine s_pass rfl rfl (congrArg not h17) ?_
    refine s_pass rfl rfl (congrArg not h17) ?_
    refine s_val (v_pickT (v := .bool _) rfl (congrArg not h17) rfl) ?_
    refine s_nil ?_
    refine c_condTh rfl rfl rfl ?_
    refine r_seq (by kernel_rfl) ?_
    refine s_call (by kernel_rfl) (fun w hw => gk_queues w) ?_
    refine s_val (v_assign (v := .bool _) rfl) ?_
    refine s_nil ?_
    refine c_ret ?_
    refine n_ret ?_
    refine n_done rfl (by decide) (Eq.trans (b := .bool _) rfl (congrArg Value.bool ?_))
    rfl
  refine s_want rfl rfl (congrArg not h17) ?_
  refine s_val (v_loadA (m := 42) (by kernel_rfl) rfl .here (H.size _)) ?_
  refine s_want rfl rfl (congrArg not h17) ?_
  refine s_call (by kernel_rfl) (fun w hw => gk_roomy _ w) ?_
  refine s_want rfl rfl (congrArg not h17) ?_
  refine s_val (v_not rfl) ?_
  refine s_val (v_pickF (v := .bool _) rfl (congrArg not h17) rfl) ?_
  refine s_nil ?_
  refine c_condN rfl rfl (fun h21 => ?_) (fun h21 => ?_)
  · refine r_seq (by kernel_rfl) ?_
    refine s_call (by kernel_rfl) (fun w hw => gk_queues w) ?_
    refine s_val (v_assign (v := .bool _) rfl) ?_
    refine s_nil ?_
    refine c_ret ?_
    refine n_ret ?_
    refine n_done rfl (by decide) (Eq.trans (b := .bool _) rfl (congrArg Value.bool ?_))
    rfl
  refine c_skip ?_
  refine n_then ?_
  have hgc : goodB h.core ps = true := h17
  have hrc : roomyB h.core = true := h21
  obtain ⟨hG, hsum, hxl⟩ := sweep_room hgc hrc
  refine r_seq (by kernel_rfl) ?_
  refine s_val (v_loadA (m := 42) (by kernel_rfl) rfl .here (H.size _)) ?_
  refine s_callG (by kernel_rfl) (sweepF_mono _ _ _) (fun w hw => g_Sweep h ps w (hp.at hw) hb hlc) (fun F25 v25 hF25 hR25 => ?_)
  obtain ⟨v1, v2, rfl, ⟨h25, rfl, hc25, hl25, ho25⟩, hi25⟩ := hR25
  obtain ⟨a25, c25, rfl, ia25⟩ := hi25.at
  refine s_val (v_move (v := .tuple _) rfl) ?_
  refine s_val (v_extract rfl rfl) ?_
  refine s_val (v_extract rfl rfl) ?_
  refine s_alloc (z := .agg zeroH.cells) (by kernel_rfl) (fun b3 => ?_)
  refine s_storeA (m := 42) (by kernel_rfl) rfl rfl .here (H.size _) (H.size _) (H.all1 _) ?_
  refine s_val (v_assign (v := .slice _ _ _) rfl) ?_
  refine s_nil ?_
  refine c_seq ?_
  have p25 := outPays (F' := F25) hp hF25 (more_young _ _) ho25
  have hpl25 : h25.pl = h.pl := by rw [← p25.1, (sweepM_len _ _).1, hp.1]
  refine r_seq (by kernel_rfl) ?_
  refine s_val (v_move (v := .int .i64 _) rfl) ?_
  refine s_nil ?_
  refine c_block ?_
  refine c_loop (σ := KF) (fun (s : KF) f => ∃ g, (s.k ≤ 4 ∧ More F25 s.F) ∧ f = (upd (upd (upd (upd g 1 (.pointer (some ⟨b1, 0, none⟩))) 3 (.pointer (some ⟨b3, 0, none⟩))) 4 (.slice a25 (sweepM h.core ps).xs.length c25)) 28 (I s.k))) (fun (s : KF) => Has w s.F [(b3, .cells h25.cells 29), (b1, .cells h.cells 29)]) (fun (s : KF) => 4 - s.k) ⟨0, F25⟩ ⟨_, ⟨Nat.zero_le _, fun _ _ h => h⟩, live4 rfl rfl rfl rfl⟩ (fun w hw => hw) ?_
  rintro s _ ⟨g, ⟨hk4', hmo⟩, rfl⟩
  refine r_seq (by kernel_rfl) ?_
  refine s_val (v_lss (k := .i64) rfl rfl) ?_
  refine s_nil ?_
  refine c_seq ?_
  refine c_cond rfl rfl (fun h29 => ?_) (fun h29 => ?_)
  · have hk4 : s.k < 4 := by have := of_decide_eq_true h29; omega
    refine c_skip ?_
    refine n_then ?_
    refine c_seq ?_
    refine c_block ?_
    refine r_seq (by kernel_rfl) ?_
    refine s_val (v_move (v := .int .i64 _) rfl) ?_
    refine s_val (v_assign (v := .int .i64 _) rfl) ?_
    refine s_nil ?_
    refine r_seq (by kernel_rfl) ?_
    refine s_val (v_loadA (m := 42) (by kernel_rfl) rfl .here (H.size _)) ?_
    refine s_val (v_move (v := .int .i64 _) rfl) ?_
    refine s_callF (by kernel_rfl) (fun w hw => g_Of h25 _ s.k w ((p25.mono hmo).at hw) (by omega) hl25 (sweepM_seqs (good_pays hgc).2.1) (.inl ⟨by omega, by omega⟩)) (fun F33 v33 E33 hF33 hK33 hR33 => ?_)
    obtain ⟨a33, c33, rfl, ia33⟩ := (ints_of_list hR33 hK33).at
    refine s_val (v_assign (v := .slice _ _ _) rfl) ?_
    refine s_nil ?_
    refine r_seq (by kernel_rfl) ?_
    refine s_val (v_move (v := .slice _ _ _) rfl) ?_
    refine s_val (v_lenS (T := 43) (m := 1) (by kernel_rfl) rfl rfl) ?_
    refine s_val (v_gtr (k := .i64) rfl rfl) ?_
    refine s_nil ?_
    refine c_condR rfl rfl (fun h36 => ?_) (fun h36 => ?_)
    · refine c_skip ?_
      refine n_bnormal ?_
      refine n_then ?_
      refine r_list (by kernel_rfl) ?_
      refine s_val (v_add rfl rfl (by omega)) ?_
      refine s_val (v_move (v := .int .i64 _) rfl) ?_
      refine s_end ?_
      refine n_round (s := s) ⟨s.k + 1, F33⟩ ⟨_, ⟨by dsimp only; omega, fun a v h => hF33 a v (hmo a v h)⟩, live4 rfl rfl rfl rfl⟩ (fun _ hw => hw) (by dsimp only; omega)
    have hne := of_decide_eq_true h36
    obtain ⟨i, r, hq⟩ : ∃ i r, queueM (sweepM h.core ps).ps s.k = i :: r := by
      cases hq : queueM (sweepM h.core ps).ps s.k with
      | nil => rw [hq] at hne; exact absurd hne (by decide)
      | cons i r => exact ⟨i, r, rfl⟩
    obtain ⟨bq, oq, rfl, hel⟩ := ia33.resolve_left (by rw [hq]; simp)
    have hi0 := hel 0 i (by rw [hq]; rfl)
    have hlen : (0 : Int) < ((queueM (sweepM h.core ps).ps s.k).length : Int) := by rw [hq]; simp only [List.length_cons]; omega
    obtain ⟨p, hst, hpi, hsta, hsrc⟩ := (queueM_mine (show i ∈ queueM (sweepM h.core ps).ps s.k by rw [hq]; simp)).settles
    have hi1 := (settles_spec hst).1
    have hilt : i.toNat < h25.pl := by have := (List.getElem?_eq_some_iff.1 hpi).1; have := p25.1; omega
    obtain ⟨bp, op, hpa, hc⟩ := (p25.mono (fun a v h => hF33 a v (hmo a v h))).some hilt
    refine c_seq ?_
    refine a_list (k := 7) (z := zeroOf Try.prog 36) (by kernel_rfl) rfl (by kernel_rfl) (by kernel_rfl) (by kernel_rfl) (by kernel_rfl) (by kernel_rfl) ?_
    refine u_val (v_field (fo := 40) (by kernel_rfl) rfl) ?_
    refine u_val (v_load1 (v := .slice _ _ _) (by kernel_rfl) rfl .here (H.at_pays _)) ?_
    refine u_val (v_move (v := .slice _ _ _) rfl) ?_
    refine u_val (v_idxS (size := 1) (k := .i64) (by kernel_rfl) rfl rfl ⟨by decide, hlen⟩) ?_
    refine u_val (v_load1o (v := I i) (by kernel_rfl) rfl hi0) ?_
    refine u_val (v_idxS (size := 6) (k := .i64) (by kernel_rfl) (congrArg (fun a => Value.slice a h25.pl h25.pc) hpa) rfl ⟨by omega, by omega⟩) ?_
    refine u_val (v_loadNo (cs := p.cells) (m := 6) (by kernel_rfl) rfl rfl (hc _ p hpi)) ?_
    refine u_end (fun b7 => ?_)
    refine s_storeA (m := 6) (by kernel_rfl) rfl rfl .here (by kernel_rfl) rfl (PayS.all1 _) ?_
    refine s_end ?_
    refine n_then ?_
    refine r_seq (by kernel_rfl) ?_
    refine s_val (v_loadA (m := 42) (by kernel_rfl) rfl (.there .here) (H.size _)) ?_
    refine s_val (v_field (fo := 0) (by kernel_rfl) rfl) ?_
    refine s_val (v_load1 (v := .int .i64 _) (by kernel_rfl) rfl .here rfl) ?_
    refine s_val (v_field (fo := 1) (by kernel_rfl) rfl) ?_
    refine s_val (v_load1 (v := .int .i64 _) (by kernel_rfl) rfl .here rfl) ?_
    refine s_val (v_field (fo := 2) (by kernel_rfl) rfl) ?_
    refine s_val (v_load1 (v := .int .i64 _) (by kernel_rfl) rfl .here rfl) ?_
    refine s_call (by kernel_rfl) (fun w hw => g_May _ _ _ _ w) ?_
    refine s_nil ?_
    refine c_condFh rfl rfl ((may_of_core (by rw [hc25]; exact hG) _ _ _).trans (by rw [hsrc, hc25]; exact rest_may (sweepM_rests hgc s.k hk4) hq hpi)) ?_
    refine c_skip ?_
    refine n_bnormal ?_
    refine n_then ?_
    refine r_list (by kernel_rfl) ?_
    refine s_val (v_add rfl rfl (by omega)) ?_
    refine s_val (v_move (v := .int .i64 _) rfl) ?_
    refine s_end ?_
    refine n_round (s := s) ⟨s.k + 1, F33⟩ ⟨_, ⟨by dsimp only; omega, fun a v h => hF33 a v (hmo a v h)⟩, live4 rfl rfl rfl rfl⟩ (fun _ hw => hw.tail) (by dsimp only; omega)
  refine c_exit ?_
  refine n_exit ?_
  refine n_exit ?_
  refine n_bhere ?_
  refine n_then ?_
  refine r_seq (by kernel_rfl) ?_
  refine s_val (v_loadA (m := 42) (by kernel_rfl) rfl (.there .here) (H.size _)) ?_
  refine s_alloc (z := .agg zeroH.cells) (by kernel_rfl) (fun b8 => ?_)
  refine s_storeA (m := 42) (by kernel_rfl) rfl rfl .here (H.size _) (H.size _) (H.all1 _) ?_
  refine s_nil ?_
  refine c_seq ?_
  have ia25' := (ia25.mono (more_young _ _)).mono hmo
  refine r_seq (by kernel_rfl) ?_
  refine s_val (v_move (v := .slice _ _ _) rfl) ?_
  refine s_val (v_lenS (T := 43) (m := 1) (by kernel_rfl) rfl rfl) ?_
  refine s_val (v_move (v := .int .i64 _) rfl) ?_
  refine s_nil ?_
  refine c_block ?_
  refine c_loop (σ := RG) (fun (t : RG) f => ∃ g, (RgOk s.F (sweepM h.core ps) h.pl t) ∧ f = (upd (upd (upd (upd (upd (upd g 1 (.pointer (some ⟨b1, 0, none⟩))) 3 (.pointer (some ⟨b3, 0, none⟩))) 8 (.pointer (some ⟨b8, 0, none⟩))) 54 (.slice a25 (sweepM h.core ps).xs.length c25)) 55 (I (sweepM h.core ps).xs.length)) 56 (I t.k))) (fun (t : RG) => Has w t.F [(b8, .cells t.y.cells 29), (b3, .cells h25.cells 29), (b1, .cells h.cells 29)]) (fun (t : RG) => (sweepM h.core ps).xs.length - t.k) ⟨0, s.F, h, ps⟩ ⟨_, rg_start (w := w) hgc hrc (hp.mono (fun a v h => hmo a v (hF25 a v h))) hlc, live6 rfl rfl rfl rfl rfl rfl⟩ (fun w hw => hw) ?_
  rintro t _ ⟨g, ho, rfl⟩
  refine r_seq (by kernel_rfl) ?_
  refine s_val (v_lss (k := .i64) rfl rfl) ?_
  refine s_nil ?_
  refine c_seq ?_
  refine c_cond rfl rfl (fun h57 => ?_) (fun h57 => ?_)
  · have hk0 := of_decide_eq_true h57
    obtain ⟨bq, oq, n, ha25, hn, hfn⟩ := ia25'.get (j := t.k) (by omega)
    obtain ⟨p, r, hn0, hn1, hpn, hst, hq, hmay, hdr⟩ := ho.step hxl hn
    have hnlt : n.toNat < t.y.pl := by have := ho.len; omega
    obtain ⟨bp, op, hpa, hc⟩ := ho.pays.some hnlt
    have hlent := ho.len
    refine c_skip ?_
    refine n_then ?_
    refine c_seq ?_
    refine c_block ?_
    refine r_seq (by kernel_rfl) ?_
    refine s_val (v_idxS (size := 1) (k := .i64) (by kernel_rfl) (congrArg (fun a => Value.slice a (sweepM h.core ps).xs.length c25) ha25) rfl ⟨by omega, by omega⟩) ?_
    refine s_val (v_load1o (v := I n) (by kernel_rfl) rfl (by simpa using ho.more _ _ hfn)) ?_
    refine s_val (v_assign (v := .int .i64 _) rfl) ?_
    refine s_nil ?_
    refine c_seq ?_
    refine r_seq (by kernel_rfl) ?_
    refine s_val (v_move (v := .int .i64 _) rfl) ?_
    refine s_val (v_lss (k := .i64) rfl rfl) ?_
    refine s_val (v_move (v := .bool _) rfl) ?_
    refine s_want rfl rfl (decide_eq_false (by omega)) ?_
    refine s_val (v_move (v := .int .i64 _) rfl) ?_
    refine s_want rfl rfl (decide_eq_false (by omega)) ?_
    refine s_val (v_field (fo := 40) (by kernel_rfl) rfl) ?_
    refine s_want rfl rfl (decide_eq_false (by omega)) ?_
    refine s_val (v_load1 (v := .slice _ _ _) (by kernel_rfl) rfl .here (H.at_pays _)) ?_
    refine s_want rfl rfl (decide_eq_false (by omega)) ?_
    refine s_val (v_lenS (T := 27) (m := 6) (by kernel_rfl) rfl rfl) ?_
    refine s_want rfl rfl (decide_eq_false (by omega)) ?_
    refine s_val (v_geq (k := .i64) rfl rfl) ?_
    refine s_val (v_pickF (v := .bool _) rfl (decide_eq_false (by omega)) rfl) ?_
    refine s_nil ?_
    refine c_condFh rfl rfl (decide_eq_false (by omega)) ?_
    refine c_skip ?_
    refine n_then ?_
    refine r_seq (by kernel_rfl) ?_
    refine s_val (v_field (fo := 40) (by kernel_rfl) rfl) ?_
    refine s_val (v_load1 (v := .slice _ _ _) (by kernel_rfl) rfl .here (H.at_pays _)) ?_
    refine s_val (v_move (v := .int .i64 _) rfl) ?_
    refine s_val (v_idxS (size := 6) (k := .i64) (by kernel_rfl) (congrArg (fun a => Value.slice a t.y.pl t.y.pc) hpa) rfl ⟨by omega, by omega⟩) ?_
    refine s_val (v_loadNo (cs := p.cells) (m := 6) (by kernel_rfl) rfl rfl (hc _ p hpn)) ?_
    refine s_alloc (z := zeroOf Try.prog 36) (by kernel_rfl) (fun b11 => ?_)
    refine s_storeA (m := 6) (by kernel_rfl) rfl rfl .here (by kernel_rfl) rfl (PayS.all1 _) ?_
    refine s_nil ?_
    refine r_seq (by kernel_rfl) ?_
    refine s_val (v_loadA (m := 42) (by kernel_rfl) rfl (.there .here) (H.size _)) ?_
    refine s_val (v_field (fo := 0) (by kernel_rfl) rfl) ?_
    refine s_val (v_load1 (v := .int .i64 _) (by kernel_rfl) rfl .here rfl) ?_
    refine s_callF (by kernel_rfl) (fun w hw => g_Of t.y t.ps p.src w (ho.pays.at hw) (by omega) ho.lc ho.seqs (.inr ho.good)) (fun F77 v77 E77 hF77 hK77 hR77 => ?_)
    obtain ⟨a77, c77, rfl, ia77⟩ := (ints_of_list hR77 hK77).at
    obtain ⟨bz, oz, rfl, hez⟩ := ia77.resolve_left (by rw [hq]; simp)
    have hz0 := hez 0 n (by rw [hq]; rfl)
    have hlenz : (0 : Int) < ((queueM t.ps p.src).length : Int) := by rw [hq]; simp only [List.length_cons]; omega
    refine s_val (v_assign (v := .slice _ _ _) rfl) ?_
    refine s_nil ?_
    refine c_seq ?_
    refine r_seq (by kernel_rfl) ?_
    refine s_val (v_move (v := .slice _ _ _) rfl) ?_
    refine s_val (v_lenS (T := 43) (m := 1) (by kernel_rfl) rfl rfl) ?_
    refine s_val (v_eql (k := .i64) rfl rfl) ?_
    refine s_val (v_move (v := .bool _) rfl) ?_
    refine s_want rfl rfl (decide_eq_false (by omega)) ?_
    refine s_val (v_move (v := .slice _ _ _) rfl) ?_
    refine s_want rfl rfl (decide_eq_false (by omega)) ?_
    refine s_val (v_idxS (size := 1) (k := .i64) (by kernel_rfl) rfl rfl ⟨by decide, hlenz⟩) ?_
    refine s_want rfl rfl (decide_eq_false (by omega)) ?_
    refine s_val (v_load1o (v := I n) (by kernel_rfl) rfl hz0) ?_
    refine s_want rfl rfl (decide_eq_false (by omega)) ?_
    refine s_val (v_move (v := .int .i64 _) rfl) ?_
    refine s_want rfl rfl (decide_eq_false (by omega)) ?_
    refine s_val (v_neq (k := .i64) rfl rfl) ?_
    refine s_val (v_pickF (v := .bool _) rfl (decide_eq_false (by omega)) rfl) ?_
    refine s_val (v_move (v := .bool _) rfl) ?_
    refine s_want rfl rfl (congrArg not (decide_eq_true rfl)) ?_
    refine s_val (v_loadA (m := 42) (by kernel_rfl) rfl (.there .here) (H.size _)) ?_
    refine s_want rfl rfl (congrArg not (decide_eq_true rfl)) ?_
    refine s_val (v_field (fo := 0) (by kernel_rfl) rfl) ?_
    refine s_want rfl rfl (congrArg not (decide_eq_true rfl)) ?_
    refine s_val (v_load1 (v := .int .i64 _) (by kernel_rfl) rfl .here rfl) ?_
    refine s_want rfl rfl (congrArg not (decide_eq_true rfl)) ?_
    refine s_val (v_field (fo := 1) (by kernel_rfl) rfl) ?_
    refine s_want rfl rfl (congrArg not (decide_eq_true rfl)) ?_
    refine s_val (v_load1 (v := .int .i64 _) (by kernel_rfl) rfl .here rfl) ?_
    refine s_want rfl rfl (congrArg not (decide_eq_true rfl)) ?_
    refine s_val (v_field (fo := 2) (by kernel_rfl) rfl) ?_
    refine s_want rfl rfl (congrArg not (decide_eq_true rfl)) ?_
    refine s_val (v_load1 (v := .int .i64 _) (by kernel_rfl) rfl .here rfl) ?_
    refine s_want rfl rfl (congrArg not (decide_eq_true rfl)) ?_
    refine s_call (by kernel_rfl) (fun w hw => g_May _ _ _ _ w) ?_
    refine s_want rfl rfl (congrArg not (decide_eq_true rfl)) ?_
    refine s_val (v_not rfl) ?_
    refine s_val (v_pickF (v := .bool _) rfl (congrArg not (decide_eq_true rfl)) rfl) ?_
    refine s_nil ?_
    refine c_condFh rfl rfl (congrArg not hmay) ?_
    refine c_skip ?_
    refine n_then ?_
    refine r_list (by kernel_rfl) ?_
    refine s_val (v_loadA (m := 42) (by kernel_rfl) rfl (.there .here) (H.size _)) ?_
    refine s_val (v_move (v := .int .i64 _) rfl) ?_
    refine s_callG (by kernel_rfl) (houseF_mono _ _ _ _) (fun w hw => g_Settle t.y t.ps n w ((ho.pays.mono hF77).at hw) (by omega) ho.lc) (fun F101 v101 hF101 hR101 => ?_)
    obtain ⟨h101, rfl, hco101, hlc101, hpo101⟩ := hR101
    have p101 := outPays (F' := F101) (ho.pays.mono hF77) hF101 (more_young _ _) hpo101
    refine s_storeA (m := 42) (by kernel_rfl) rfl rfl (.there .here) (H.size _) (H.size _) (H.all1 _) ?_
    refine s_end ?_
    refine n_bnormal ?_
    refine n_then ?_
    refine r_list (by kernel_rfl) ?_
    refine s_val (v_add rfl rfl (by omega)) ?_
    refine s_val (v_move (v := .int .i64 _) rfl) ?_
    refine s_end ?_
    refine n_round (s := t) ⟨t.k + 1, F101, h101, settleP t.ps n⟩ ⟨_, ho.next hxl hdr hst (fun a v h => hF101 a v (hF77 a v h)) hco101 hlc101 p101, live6 rfl rfl rfl rfl rfl rfl⟩ (fun _ hw => hw.tail) (by dsimp only; omega)
  obtain ⟨hyc, hyp⟩ := ho.fin (of_decide_eq_false h57)
  have hlent := ho.len
  refine c_exit ?_
  refine n_exit ?_
  refine n_exit ?_
  refine n_bhere ?_
  refine n_then ?_
  refine c_seq ?_
  refine d_seq (by kernel_rfl) (by kernel_rfl) (fun w hw => hw.drew) (by kernel_rfl) ?_
  refine q_val (v_field (fo := 0) (by kernel_rfl) rfl) ?_
  refine q_val (v_loadN (m := 8) (cs' := accA _ _) (by kernel_rfl) rfl .here (accA_size _ _) (H.ex_acc _)) ?_
  refine q_val (v_field (fo := 0) (by kernel_rfl) rfl) ?_
  refine q_val (v_loadN (m := 8) (cs' := accA _ _) (by kernel_rfl) rfl (.there .here) (accA_size _ _) (H.ex_acc _)) ?_
  refine q_val (v_neqFlat (n := 8) _ _ (by kernel_rfl) rfl rfl (accA_list _ _) (accA_list _ _) rfl rfl) ?_
  refine q_val (v_move (v := .bool _) rfl) ?_
  refine q_want rfl rfl (congrArg not (decide_eq_true (core_acc (hyc.trans hc25.symm)).1)) ?_
  refine q_val (v_field (fo := 8) (by kernel_rfl) rfl) ?_
  refine q_want rfl rfl (congrArg not (decide_eq_true (core_acc (hyc.trans hc25.symm)).1)) ?_
  refine q_val (v_loadN (m := 16) (cs' := matA _) (by kernel_rfl) rfl .here (matA_size _) (H.ex_sent _)) ?_
  refine q_want rfl rfl (congrArg not (decide_eq_true (core_acc (hyc.trans hc25.symm)).1)) ?_
  refine q_val (v_field (fo := 8) (by kernel_rfl) rfl) ?_
  refine q_want rfl rfl (congrArg not (decide_eq_true (core_acc (hyc.trans hc25.symm)).1)) ?_
  refine q_val (v_loadN (m := 16) (cs' := matA _) (by kernel_rfl) rfl (.there .here) (matA_size _) (H.ex_sent _)) ?_
  refine q_want rfl rfl (congrArg not (decide_eq_true (core_acc (hyc.trans hc25.symm)).1)) ?_
  refine q_val (v_neqFlat (n := 16) _ _ (by kernel_rfl) rfl rfl (matA_list _) (matA_list _) rfl rfl) ?_
  refine q_val (v_pickF (v := .bool _) rfl (congrArg not (decide_eq_true (core_acc (hyc.trans hc25.symm)).1)) rfl) ?_
  refine q_val (v_move (v := .bool _) rfl) ?_
  refine q_want rfl rfl (congrArg not (decide_eq_true (core_acc (hyc.trans hc25.symm)).2)) ?_
  refine q_val (v_field (fo := 40) (by kernel_rfl) rfl) ?_
  refine q_want rfl rfl (congrArg not (decide_eq_true (core_acc (hyc.trans hc25.symm)).2)) ?_
  refine q_val (v_load1 (v := .slice _ _ _) (by kernel_rfl) rfl .here (H.at_pays _)) ?_
  refine q_want rfl rfl (congrArg not (decide_eq_true (core_acc (hyc.trans hc25.symm)).2)) ?_
  refine q_val (v_lenS (T := 27) (m := 6) (by kernel_rfl) rfl rfl) ?_
  refine q_want rfl rfl (congrArg not (decide_eq_true (core_acc (hyc.trans hc25.symm)).2)) ?_
  refine q_val (v_field (fo := 40) (by kernel_rfl) rfl) ?_
  refine q_want rfl rfl (congrArg not (decide_eq_true (core_acc (hyc.trans hc25.symm)).2)) ?_
  refine q_val (v_load1 (v := .slice _ _ _) (by kernel_rfl) rfl (.there .here) (H.at_pays _)) ?_
  refine q_want rfl rfl (congrArg not (decide_eq_true (core_acc (hyc.trans hc25.symm)).2)) ?_
  refine q_val (v_lenS (T := 27) (m := 6) (by kernel_rfl) rfl rfl) ?_
  refine q_want rfl rfl (congrArg not (decide_eq_true (core_acc (hyc.trans hc25.symm)).2)) ?_
  refine q_val (v_neq (k := .i64) rfl rfl) ?_
  refine q_val (v_pickF (v := .bool _) rfl (congrArg not (decide_eq_true (core_acc (hyc.trans hc25.symm)).2)) rfl) ?_
  refine q_val (v_move (v := .bool _) rfl) ?_
  refine q_want rfl rfl (congrArg not (decide_eq_true (by rw [hlent, hpl25]))) ?_
  refine q_val (v_loadA (m := 42) (by kernel_rfl) rfl (.there .here) (H.size _)) ?_
  refine q_want rfl rfl (congrArg not (decide_eq_true (by rw [hlent, hpl25]))) ?_
  refine q_call (by kernel_rfl) (fun w hw => g_Sum _ w) ?_
  refine q_want rfl rfl (congrArg not (decide_eq_true (by rw [hlent, hpl25]))) ?_
  refine q_val (v_loadA (m := 42) (by kernel_rfl) rfl (.there (.there .here)) (H.size _)) ?_
  refine q_want rfl rfl (congrArg not (decide_eq_true (by rw [hlent, hpl25]))) ?_
  refine q_call (by kernel_rfl) (fun w hw => g_Sum _ w) ?_
  refine q_want rfl rfl (congrArg not (decide_eq_true (by rw [hlent, hpl25]))) ?_
  refine q_val (v_neq (k := .i64) rfl rfl) ?_
  refine q_val (v_pickF (v := .bool _) rfl (congrArg not (decide_eq_true (by rw [hlent, hpl25]))) rfl) ?_
  refine q_nil ?_
  refine c_condFh rfl rfl (congrArg not (decide_eq_true (((sum_core h25).symm.trans (by rw [hc25])).trans hsum))) ?_
  refine c_skip ?_
  refine n_then ?_
  refine c_seq ?_
  refine r_seq (by kernel_rfl) ?_
  refine s_val (v_field (fo := 40) (by kernel_rfl) rfl) ?_
  refine s_val (v_load1 (v := .slice _ _ _) (by kernel_rfl) rfl (.there .here) (H.at_pays _)) ?_
  refine s_val (v_lenS (T := 27) (m := 6) (by kernel_rfl) rfl rfl) ?_
  refine s_val (v_move (v := .int .i64 _) rfl) ?_
  refine s_nil ?_
  refine c_block ?_
  refine c_loop (σ := Nat) (fun (j : Nat) f => ∃ g, (j ≤ h25.pl) ∧ f = (upd (upd (upd (upd (upd g 1 (.pointer (some ⟨b1, 0, none⟩))) 3 (.pointer (some ⟨b3, 0, none⟩))) 8 (.pointer (some ⟨b8, 0, none⟩))) 133 (I h25.pl)) 134 (I j))) (fun (j : Nat) => Has w t.F [(b8, .cells t.y.cells 29), (b3, .cells h25.cells 29), (b1, .cells h.cells 29)]) (fun (j : Nat) => h25.pl - j) 0 ⟨_, Nat.zero_le _, live5 rfl rfl rfl rfl rfl⟩ (fun w hw => hw) ?_
  rintro j _ ⟨g, hjl, rfl⟩
  refine r_seq (by kernel_rfl) ?_
  refine s_val (v_lss (k := .i64) rfl rfl) ?_
  refine s_nil ?_
  refine c_seq ?_
  refine c_condR rfl rfl (fun h135 => ?_) (fun h135 => ?_)
  · refine c_exit ?_
    refine n_exit ?_
    refine n_exit ?_
    refine n_bhere ?_
    refine n_then ?_
    refine r_seq (by kernel_rfl) ?_
    refine s_call (by kernel_rfl) (fun w hw => gk_queues w) ?_
    refine s_val (v_assign (v := .bool _) rfl) ?_
    refine s_nil ?_
    refine c_ret ?_
    refine n_done rfl (by decide) (Eq.trans (b := .bool _) rfl (congrArg Value.bool ?_))
    rfl
  have hj0 := of_decide_eq_true h135
  obtain ⟨p, hpj, _, _⟩ := p25.get (k := j) (by omega)
  obtain ⟨bx, ox, hpx, hcx⟩ := (p25.mono (fun a v h => ho.more a v (hmo a v h))).some (k := j) (by omega)
  obtain ⟨by_, oy, hpy, hcy⟩ := ho.pays.some (k := j) (by omega)
  refine c_skip ?_
  refine n_then ?_
  refine c_seq ?_
  refine c_block ?_
  refine r_seq (by kernel_rfl) ?_
  refine s_val (v_move (v := .int .i64 _) rfl) ?_
  refine s_val (v_assign (v := .int .i64 _) rfl) ?_
  refine s_nil ?_
  refine d_seq (by kernel_rfl) (by kernel_rfl) (fun w hw => hw.drew) (by kernel_rfl) ?_
  refine q_val (v_field (fo := 40) (by kernel_rfl) rfl) ?_
  refine q_val (v_load1 (v := .slice _ _ _) (by kernel_rfl) rfl (.there .here) (H.at_pays _)) ?_
  refine q_val (v_move (v := .int .i64 _) rfl) ?_
  refine q_val (v_idxS (size := 6) (k := .i64) (by kernel_rfl) (congrArg (fun a => Value.slice a h25.pl h25.pc) hpx) rfl ⟨by omega, by omega⟩) ?_
  refine q_val (v_loadNo (cs := p.cells) (m := 6) (by kernel_rfl) rfl rfl (hcx j p hpj)) ?_
  refine q_val (v_field (fo := 40) (by kernel_rfl) rfl) ?_
  refine q_val (v_load1 (v := .slice _ _ _) (by kernel_rfl) rfl .here (H.at_pays _)) ?_
  refine q_val (v_move (v := .int .i64 _) rfl) ?_
  refine q_val (v_idxS (size := 6) (k := .i64) (by kernel_rfl) (congrArg (fun a => Value.slice a t.y.pl t.y.pc) hpy) rfl ⟨by omega, by omega⟩) ?_
  refine q_val (v_loadNo (cs := p.cells) (m := 6) (by kernel_rfl) rfl rfl (hcy j p (by rw [hyp]; exact hpj))) ?_
  refine q_val (v_neqFlat (n := 6) _ _ (by kernel_rfl) rfl rfl (PayS.cells_list _) (PayS.cells_list _) rfl rfl) ?_
  refine q_nil ?_
  refine c_condFh rfl rfl (congrArg not (decide_eq_true rfl)) ?_
  refine c_skip ?_
  refine n_bnormal ?_
  refine n_then ?_
  refine r_list (by kernel_rfl) ?_
  refine s_val (v_add rfl rfl (by omega)) ?_
  refine s_val (v_move (v := .int .i64 _) rfl) ?_
  refine s_end ?_
  refine n_round (j + 1) ⟨_, (by omega), live5 rfl rfl rfl rfl rfl⟩ (fun _ hw => hw) (by omega)

end Go.Proofs.Ytmkboljfbmlebaa
