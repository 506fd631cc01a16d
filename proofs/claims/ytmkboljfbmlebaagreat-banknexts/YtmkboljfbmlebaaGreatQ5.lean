/- What the laws of this place stand on, part 5. Each part names its own conditions in what it states. -/
import Derived.Test.YtmkboljfbmlebaaGreatQ4
import Derived.Test.YtmkboljfbmlebaaGreatRows
namespace Go.Proofs.YtmkboljfbmlebaaGreat
open Go.RowKit
set_option linter.unusedSimpArgs false
set_option linter.unusedVariables false
section
variable {P : Program} {n : Nat} {σ : Type} {T : Array Bool → σ → World → Prop} {le : σ → World → σ → World → Prop} {f : Nat → Value} {l : List Oper} {Ψ : Nat → Value → σ → World → Prop} {Q : Exit → (Nat → Value) → World → Prop} {C : World → Prop}
def StepOb (P : Program) (T : Array Bool → σ → World → Prop) (le : σ → World → σ → World → Prop) (f : Nat → Value) (l : List Oper) (Ψ : Nat → Value → σ → World → Prop) (i : Nat) (o : Oper) : Prop :=
 ∀ (s : Array Bool) (st : σ) (g : Nat → Value) (w : World), s.size = l.length → s[i]? = some false → (∀ e ∈ o.after, Region.binds .any e = true → s.getD e.on false = true) → T s st w →
   (∀ t ∈ o.looksAt l.toArray, (t ∈ dstsOf l → Ψ t (g t) st w) ∧ (t ∉ dstsOf l → g t = f t)) →
   if Region.wanted o (yf l.toArray g) then opk P o g w (fun g' w' => ∃ v, g' = updo g o.dst v ∧ ∃ st', T (s.setIfInBounds i true) st' w' ∧ le st w st' w' ∧ ∀ d, o.dst = some d → Ψ d v st' w')
   else ∃ st', T (s.setIfInBounds i true) st' w ∧ le st w st' w ∧ ∀ d, o.dst = some d → Ψ d undef st' w
structure FlowInvS (T : Array Bool → σ → World → Prop) (f : Nat → Value) (l : List Oper) (Ψ : Nat → Value → σ → World → Prop) (s : Array Bool) (st : σ) (g : Nat → Value) (w : World) : Prop where
 size : s.size = l.length
 cls : T s st w
 done : ∀ (i : Nat) (o : Oper) (d : Nat), l[i]? = some o → s[i]? = some true → o.dst = some d → Ψ d (g d) st w
 out : ∀ t, t ∉ dstsOf l → g t = f t
theorem d_steps {id : Nat} (hm : P.follows .mixedOrders = true) (hB : opsB n l.toArray = true) (hF : flowB .any l = true) (hstab : ∀ d v st w st' w', le st w st' w' → Ψ d v st w → Ψ d v st' w')
   (h0 : ∀ w, C w → ∃ st, T (Array.replicate l.length false) st w.drew) (hst : ∀ i o, l[i]? = some o → StepOb P T le f l Ψ i o)
   (k : ∀ s st g w, (∀ i, i < l.length → s[i]? = some true) → T s st w → (∀ d ∈ dstsOf l, Ψ d (g d) st w) → (∀ t, t ∉ dstsOf l → g t = f t) → Q .normal g w) : cC P n (.region id l.toArray true) Q f C := by
 simp only [flowB, Bool.and_eq_true, decide_eq_true_eq, List.all_eq_true] at hF
 obtain ⟨⟨hnd, hsel⟩, hall⟩ := hF
 have hop : ∀ (i : Nat) (o : Oper), l[i]? = some o → (∀ t ∈ o.looksAt l.toArray, ∀ (j : Nat) (u : Oper), l[j]? = some u → u.dst = some t → ∃ e ∈ o.after, Region.binds .any e = true ∧ e.on = j) ∧ (∀ e ∈ o.after, Region.binds .any e = true → e.on < i) := by
   intro i o hi
   have := hall (o, i) (List.mem_zipIdx_iff_getElem?.2 hi)
   simp only [Bool.and_eq_true, List.all_eq_true] at this
   obtain ⟨h1, h2⟩ := this
   refine ⟨fun t ht j u hj hu => ?_, fun e he hb => ?_⟩
   · have := h1 t ht (u, j) (List.mem_zipIdx_iff_getElem?.2 hj)
     simp [hu] at this
     obtain ⟨i', hi', e1, e2⟩ := this
     exact ⟨_, Array.getElem_mem hi', e1, e2⟩
   · have := Array.all_eq_true_iff_forall_mem.1 h2 e he
     simpa [hb] using this
 have hB' : ∀ o ∈ l, operB n l.toArray o = true := by simpa [opsB] using hB
 have main : ∀ (fuel : Nat) (s : Array Bool) (st : σ) (g : Nat → Value) (w : World), FlowInvS T f l Ψ s st g w → s.toList.countP unset ≤ fuel → wpAny P .any l.toArray (fun e a w => ∃ f, a = Fa n f ∧ Q e f w) fuel s (Fa n g) w := by
   have all : ∀ (s : Array Bool) (st : σ) (g : Nat → Value) (w : World), FlowInvS T f l Ψ s st g w → Region.ready .any l.toArray s = [] → Q .normal g w := by
     intro s st g w inv hr
     have hls : ∀ i, i < l.length → s[i]? = some true := by
       intro i
       induction i using Nat.strongRecOn with
       | _ i ih =>
         intro hi
         have his : i < s.size := by rw [inv.size]; exact hi
         cases hv : s[i] with
         | true => simp [his, hv]
         | false =>
           exfalso
           have : i ∈ Region.ready .any l.toArray s := mem_ready.2 ⟨by simp [Array.getD, his, hv], l[i], by simp [hi], fun e he hb => by
             have hlt := (hop i l[i] (by simp [hi])).2 e he hb
             have := ih e.on hlt (by omega)
             have hsz := (Array.getElem?_eq_some_iff.1 this)
             obtain ⟨h1, h2⟩ := hsz
             simp [Array.getD, h1, h2]⟩
           rw [hr] at this
           cases this
     refine k s st g w hls inv.cls (fun d hd => ?_) inv.out
     obtain ⟨o, ho, hd'⟩ := List.mem_filterMap.1 hd
     obtain ⟨i, hi, he⟩ := List.getElem_of_mem ho
     exact inv.done i o d (by simp [hi, he]) (hls i hi) hd'
   intro fuel
   induction fuel with
   | zero =>
     intro s st g w inv hc
     have hr : Region.ready .any l.toArray s = [] := by
       cases hr : Region.ready .any l.toArray s with
       | nil => rfl
       | cons i r =>
         exfalso
         have hi := (mem_ready.1 (show i ∈ Region.ready .any l.toArray s by rw [hr]; simp)).1
         have : false ∈ s.toList := by
           by_cases hs : i < s.size
           · simp [Array.getD, hs] at hi
             rw [← hi]; simp
           · simp [Array.getD, hs] at hi
         have := List.countP_pos_iff (p := unset).2 ⟨false, this, rfl⟩
         omega
     exact ⟨hr, g, rfl, all s st g w inv hr⟩
   | succ fuel ih =>
     intro s st g w inv hc
     refine ⟨fun hr => ⟨g, rfl, all s st g w inv hr⟩, fun i hi => ?_⟩
     obtain ⟨hun, o, ho, hed⟩ := mem_ready.1 hi
     have hol : l[i]? = some o := by simpa using ho
     have hom : o ∈ l := List.mem_of_getElem? hol
     have his : i < s.size := by
       rcases Nat.lt_or_ge i s.size with h | h
       · exact h
       · have hn : ¬ i < s.size := by omega
         simp [Array.getD, hn] at hun
     have hfalse : s[i] = false := by simpa [Array.getD, his] using hun
     have hcount : (s.setIfInBounds i true).toList.countP unset ≤ fuel := by
       have e1 : unset (s.toList[i]'(by simpa using his)) = true := by simp [unset, hfalse]
       have h0 : 0 < s.toList.countP unset := List.countP_pos_iff.2 ⟨s.toList[i]'(by simpa using his), List.getElem_mem _, e1⟩
       rw [Array.toList_setIfInBounds, List.countP_set (by simpa using his), if_pos e1, if_neg (by simp [unset])]
       omega
     have hlk : ∀ t ∈ o.looksAt l.toArray, (t ∈ dstsOf l → Ψ t (g t) st w) ∧ (t ∉ dstsOf l → g t = f t) := fun t ht => ⟨fun htd => by
       obtain ⟨u, hu, hut⟩ := List.mem_filterMap.1 htd
       obtain ⟨j, hj, he⟩ := List.getElem_of_mem hu
       have hj' : l[j]? = some u := by simp [hj, he]
       obtain ⟨e, he1, he2, he3⟩ := (hop i o hol).1 t ht j u hj' hut
       have := hed e he1 he2
       rw [he3] at this
       refine inv.done j u t hj' ?_ hut
       have hjs : j < s.size := by rw [inv.size]; exact hj
       simp [Array.getD, hjs] at this
       simp [hjs, this], inv.out t⟩
     have next : ∀ v st' w', T (s.setIfInBounds i true) st' w' → le st w st' w' → (∀ d, o.dst = some d → Ψ d v st' w') → FlowInvS T f l Ψ (s.setIfInBounds i true) st' (updo g o.dst v) w' := by
       intro v st' w' hc hle hv
       refine ⟨by simp [inv.size], hc, fun j u d hj hs hu => ?_, fun t ht => ?_⟩
       · by_cases hji : j = i
         · subst hji
           rw [hol] at hj
           simp at hj; subst hj
           rw [hu]
           simp only [updo, upd_same]
           exact hv d hu
         · have hs' : s[j]? = some true := by rw [Array.getElem?_setIfInBounds_ne (Ne.symm hji)] at hs; exact hs
           have hne : o.dst ≠ some d := fun e => hji (dst_unique hnd hj hol hu e)
           have := hstab _ _ _ _ _ _ hle (inv.done j u d hj hs' hu)
           cases hod : o.dst with
           | none => exact this
           | some d' =>
             simp only [updo]
             rw [upd_other g v (fun e => hne (by rw [hod, e]))]
             exact this
       · cases hod : o.dst with
         | none => exact inv.out t ht
         | some d' =>
           simp only [updo]
           rw [upd_other g v (fun e => ht (List.mem_filterMap.2 ⟨o, hom, by rw [hod, e]⟩))]
           exact inv.out t ht
     have hob : if Region.wanted o (yf l.toArray g) then opk P o g w (fun g' w' => ∃ v, g' = updo g o.dst v ∧ ∃ st', FlowInvS T f l Ψ (s.setIfInBounds i true) st' (updo g o.dst v) w') else ∃ st', FlowInvS T f l Ψ (s.setIfInBounds i true) st' (updo g o.dst undef) w := by
       have hb := hst i o hol s st g w inv.size (by simp [his, hfalse]) hed inv.cls hlk
       split
       · rename_i hwt
         rw [if_pos hwt] at hb
         unfold opk at hb ⊢
         generalize (execOp (ev g) o).run P w = r at hb ⊢
         cases r with
         | ok nx' w' =>
           cases nx' <;> simp only at hb ⊢
           case value v => obtain ⟨v', e, st', h1, h2, h3⟩ := hb; exact ⟨v', e, st', next v' st' w' h1 h2 h3⟩
           case skip => obtain ⟨v', e, st', h1, h2, h3⟩ := hb; exact ⟨v', e, st', next v' st' w' h1 h2 h3⟩
           case enter fn args => exact Calls.mono hb fun e w'' ⟨v, he, v', e', st', h1, h2, h3⟩ => ⟨v, he, v', e', st', next v' st' w'' h1 h2 h3⟩
         | halt x w' => exact hb
       · rename_i hwt
         rw [if_neg hwt] at hb
         obtain ⟨st', h1, h2, h3⟩ := hb
         exact ⟨st', next undef st' w h1 h2 h3⟩
     unfold wpOp
     simp only [ho]
     rw [Fa_wanted (hB' o hom)]
     split
     · rename_i hw
       rw [if_pos hw] at hob
       refine Or.inl ?_
       unfold Oper.wp
       rw [Fa_exec (hB' o hom)]
       unfold opk at hob
       generalize (execOp (ev g) o).run P w = r at hob
       cases r with
       | ok nx w' =>
         cases nx <;> simp only at hob <;> simp only [Oper.upon]
         case value v =>
           obtain ⟨v', e, st', hinv⟩ := hob
           rw [Fa_put, e]
           exact ih _ _ _ _ hinv hcount
         case skip =>
           obtain ⟨v', e, st', hinv⟩ := hob
           rw [Fa_put, e]
           exact ih _ _ _ _ hinv hcount
         case enter fn args =>
           refine Calls.mono hob fun e w'' ⟨v, he, v', e', st', hinv⟩ => ?_
           subst he
           show wpAny P .any l.toArray _ fuel _ ((Fa n g).put o.dst v) w''
           rw [Fa_put, e']
           exact ih _ _ _ _ hinv hcount
       | halt x w' => exact hob.elim
     · rename_i hw
       rw [if_neg hw] at hob
       obtain ⟨st', hob⟩ := hob
       rw [Fa_put]
       exact ih _ _ _ _ hob hcount
 intro w hw
 refine wp_region_any hm ?_
 obtain ⟨st, h1⟩ := h0 w hw
 refine main _ _ st f w.drew ⟨by simp, by simpa using h1, fun i o d hi hs hd => ?_, fun _ _ => rfl⟩ ?_
 · rw [Array.getElem?_replicate] at hs
   split at hs <;> simp at hs
 · have := List.countP_le_length (p := unset) (l := (Array.replicate l.toArray.size false).toList)
   simpa using this
end
end Go.Proofs.YtmkboljfbmlebaaGreat
namespace Go.Proofs.YtmkboljfbmlebaaGreat
open Go.RowKit
set_option linter.unusedSimpArgs false
set_option linter.unusedVariables false
def cutAt (w : World) (n : Nat) : World := { w with heap := w.heap.extract 0 n }
theorem cutAt_size {w : World} {n : Nat} (h : n ≤ w.heap.size) : (cutAt w n).heap.size = n := by simp [cutAt]; omega
theorem cutAt_block {w : World} {n k : Nat} (h : n ≤ w.heap.size) (hk : k < n) : (cutAt w n).heap[k]? = w.heap[k]? := by
 simp only [cutAt, Array.getElem?_extract]
 split
 · congr 1; omega
 · omega
theorem cutAt_bel {w : World} {n : Nat} (h : n ≤ w.heap.size) : Bel (cutAt w n).heap.size (cutAt w n) w :=
 ⟨⟨rfl, rfl, rfl, by rw [cutAt_size h]; exact h, fun k hk => by rw [cutAt_size h] at hk; exact (cutAt_block h hk).symm⟩, Nat.le_refl _⟩
def upFrom (n : Nat) (L : List (Nat × Obj)) : List (Nat × Obj) := L.filter fun p => decide (n ≤ p.1)
theorem Has.cut {w0 w : World} {F : Addr → Value → Prop} {B L : List (Nat × Obj)} {n : Nat} (h : Has w0 F (B ++ L) w) (hn : n ≤ w.heap.size) (hB : ∀ p ∈ B, n ≤ p.1) : Has (cutAt w n) F (B ++ upFrom n L) w := by
 have hs : (B ++ upFrom n L).Sublist (B ++ L) := List.Sublist.append (List.Sublist.refl _) List.filter_sublist
 have h' := h.sub hs
 refine ⟨cutAt_bel hn, h'.2.1, fun p hp => ⟨?_, (h'.2.2.1 p hp).2⟩, h'.2.2.2⟩
 rw [cutAt_size hn]
 rcases List.mem_append.1 hp with hp | hp
 · exact hB p hp
 · simpa using (List.mem_filter.1 hp).2
section
variable {P : Program} {ops : Array Oper} {K : (Nat → Value) → World → Prop} {rest : List Oper} {f : Nat → Value} {d : Nat} {ty : TypeId} {pos : String} {af : Array Edge} {w0 : World} {F : Addr → Value → Prop} {B L : List (Nat × Obj)}
theorem v_nilCheck {C : World → Prop} {dst : Option Nat} {gd : Option (Nat × Bool)} {x : Operand} {a : Addr} (hx : ev f x = .pointer (some a)) : Val P f C ⟨dst, .nilCheck x, ty, pos, af, gd⟩ (.pointer (some a)) :=
 ⟨fun w _ => by simp [execOp, hx]⟩
end
end Go.Proofs.YtmkboljfbmlebaaGreat
namespace Go.Proofs.YtmkboljfbmlebaaGreat
open Go.RowKit
set_option linter.unusedSimpArgs false
set_option linter.unusedVariables false
def ActsAt (F : Addr → Value → Prop) (a : Option Addr) (xs : List ActS) : Prop := xs = [] ∨ ∃ b o, a = some ⟨b, o, none⟩ ∧ ∀ (j : Nat) (x : ActS), xs[j]? = some x → ∀ (k : Nat) (v : Value), x.cells[k]? = some v → F ⟨b, o + j * 5 + k, none⟩ v
theorem ActsIn.at {F : Addr → Value → Prop} {v : Value} {xs : List ActS} (h : ActsIn F v xs) : ∃ a c, v = .slice a xs.length c ∧ ActsAt F a xs := by
 obtain ⟨a, c, h1, _, h3⟩ := h
 exact ⟨a, c, h1, h3⟩
theorem ActsAt.mono {F F' : Addr → Value → Prop} {a : Option Addr} {xs : List ActS} (h : ActsAt F a xs) (hm : More F F') : ActsAt F' a xs := by
 rcases h with h | ⟨b, o, h1, h2⟩
 · exact .inl h
 · exact .inr ⟨b, o, h1, fun j x hj k v hv => hm _ _ (h2 j x hj k v hv)⟩
theorem ActsAt.at {w0 w : World} {F : Addr → Value → Prop} {L : List (Nat × Obj)} {a : Option Addr} {xs : List ActS} (h : ActsAt F a xs) (hw : Has w0 F L w) : ActsAt (At w) a xs := h.mono hw.at
theorem ActsAt.get {F : Addr → Value → Prop} {a : Option Addr} {xs : List ActS} (h : ActsAt F a xs) {j : Nat} (hj : j < xs.length) : ∃ b o x, a = some ⟨b, o, none⟩ ∧ xs[j]? = some x ∧ ∀ (k : Nat) (v : Value), x.cells[k]? = some v → F ⟨b, o + j * 5 + k, none⟩ v := by
 rcases h with rfl | ⟨b, o, h1, h2⟩
 · simp at hj
 · exact ⟨b, o, xs[j], h1, by simp [hj], h2 j _ (by simp [hj])⟩
def ActS.list (x : ActS) : List Int := [x.kind, x.a, x.b, x.c, x.n]
theorem ActS.cells_list (x : ActS) : x.cells = ((ActS.list x).map I).toArray := rfl
theorem bytes_byt {xs : List ActS} (h : ∀ x ∈ xs, noted x = true) : Byt (bytesOf xs) := fun b hb => by
 obtain ⟨x, hx, hbx⟩ := List.mem_flatMap.1 hb
 exact frame_byte (h x hx) b hbx
end Go.Proofs.YtmkboljfbmlebaaGreat
namespace Go.Proofs.YtmkboljfbmlebaaGreat
open Go.RowKit
set_option linter.unusedSimpArgs false
set_option linter.unusedVariables false
def left (c : H) (i : Int) : Int := c.has i + c.cred i
def net (c : H) (i j : Int) : Int := c.sent i j - c.sent j i
structure NW (c d : H) : Prop where
 left : ∀ i : Int, 0 ≤ i ∧ i < 4 → 0 ≤ left d i ∨ left c i ≤ left d i
 net : ∀ i j : Int, 0 ≤ i ∧ i < 4 → 0 ≤ j ∧ j < 4 → d.lim i j < 0 ∨ net d i j ≤ d.lim i j ∨ net d i j ≤ net c i j
 cred : d.cred = c.cred
 lim : d.lim = c.lim
theorem NW.refl (c : H) : NW c c := ⟨fun _ _ => .inr (Int.le_refl _), fun _ _ _ _ => .inr (.inr (Int.le_refl _)), rfl, rfl⟩
theorem NW.trans {c d e : H} (h : NW c d) (k : NW d e) : NW c e := by
 refine ⟨fun i hi => ?_, fun i j hi hj => ?_, k.cred.trans h.cred, k.lim.trans h.lim⟩
 · have h1 := h.left i hi
   have h2 := k.left i hi
   omega
 · have h1 := h.net i j hi hj
   have h2 := k.net i j hi hj
   have e1 : e.lim i j = d.lim i j := by rw [k.lim]
   omega
end Go.Proofs.YtmkboljfbmlebaaGreat
namespace Go.Proofs.YtmkboljfbmlebaaGreat
open Go.RowKit
set_option linter.unusedSimpArgs false
set_option linter.unusedVariables false
structure BankS where
 c : H
 ps : List PayS
 text : List Nat
 down : Bool
 fail : Int
 acts : Nat
structure RepS where
 code : Int
 n : Int
 done : List Int
def errR (e : Int) : RepS := ⟨e, 0, []⟩
def NR.rep (r : NR) : RepS := ⟨r.code, r.n, r.done⟩
noncomputable def replayFrom (x : H × List PayS) (l : List ActS) : H × List PayS := l.foldl (fun x a => ((nextM x.1 x.2 a).c, (nextM x.1 x.2 a).ps)) x
noncomputable def replayM (l : List ActS) : H × List PayS := replayFrom (newM.core, []) l
theorem replay_snoc (l : List ActS) (a : ActS) : replayM (l ++ [a]) = ((nextM (replayM l).1 (replayM l).2 a).c, (nextM (replayM l).1 (replayM l).2 a).ps) := by
 simp [replayM, replayFrom, List.foldl_append]
def newB : BankS := ⟨newM.core, [], [], false, -1, 0⟩
noncomputable def doM (s : BankS) (a : ActS) : BankS × RepS :=
 bif decide (s.acts = 200) then (s, errR 5)
 else bif decide (a.kind = 11) then
   bif !s.down then ({ s with acts := s.acts + 1 }, errR 2)
   else ({ s with acts := s.acts + 1, c := (replayM (readM s.text)).1, ps := (replayM (readM s.text)).2, text := bytesOf (readM s.text), down := false }, ⟨0, (readM s.text).length, []⟩)
 else bif s.down then ({ s with acts := s.acts + 1 }, errR 7)
 else bif decide (a.kind = 10) then
   bif !withinB a.n 0 4000 then ({ s with acts := s.acts + 1 }, errR 3) else ({ s with acts := s.acts + 1, fail := a.n }, errR 0)
 else bif !decide ((nextM s.c s.ps a).code = 0) then ({ s with acts := s.acts + 1 }, (nextM s.c s.ps a).rep)
 else bif !noted a then ({ s with acts := s.acts + 1 }, errR 3)
 else bif decide (4000 < s.text.length + (frameOf a).length) then ({ s with acts := s.acts + 1 }, errR 5)
 else bif decide (0 ≤ s.fail) then ({ s with acts := s.acts + 1, text := s.text ++ (frameOf a).take s.fail.toNat, down := true, fail := -1 }, errR 7)
 else ({ s with acts := s.acts + 1, text := s.text ++ frameOf a, c := (nextM s.c s.ps a).c, ps := (nextM s.c s.ps a).ps }, (nextM s.c s.ps a).rep)
structure BInv (s : BankS) (log : List ActS) (lost : Option (ActS × Nat)) : Prop where
 noted : ∀ x ∈ log, noted x = true
 house : (s.c, s.ps) = replayM log
 up : s.down = false → s.text = bytesOf log ∧ lost = none
 low : s.down = true → ∃ a m, lost = some (a, m) ∧ Proofs.YtmkboljfbmlebaaGreat.noted a = true ∧ s.text = bytesOf log ++ (frameOf a).take m ∧ s.fail = -1
 len : s.text.length ≤ 4000
theorem newB_inv : BInv newB [] none where
 noted := fun x hx => by cases hx
 house := rfl
 up := fun _ => ⟨rfl, rfl⟩
 low := fun h => by cases h
 len := by simp [newB]
theorem bytes_app (l r : List ActS) : bytesOf (l ++ r) = bytesOf l ++ bytesOf r := by simp [bytesOf]
theorem bytes_one (a : ActS) : bytesOf [a] = frameOf a := by simp [bytesOf]
theorem read_lost {log : List ActS} {a : ActS} {m : Nat} (hl : ∀ x ∈ log, noted x = true) (ha : noted a = true) : readM (bytesOf log ++ (frameOf a).take m) = log ∨ readM (bytesOf log ++ (frameOf a).take m) = log ++ [a] := by
 rcases Nat.lt_or_ge m (frameOf a).length with h | h
 · refine .inl (readM_all log hl _ fun y hy => ?_)
   have h1 := first_cut ha (l := (frameOf a).take m) (List.take_prefix _ _) (by simp; omega)
   exact (first_none _).1 h1 y hy
 · right
   rw [List.take_of_length_le h, ← bytes_one a, ← bytes_app]
   exact readM_self fun x hx => by
     rcases List.mem_append.1 hx with hx | hx
     · exact hl x hx
     · simp at hx; subst hx; exact ha
inductive DoStep (s : BankS) (log : List ActS) (lost : Option (ActS × Nat)) (a : ActS) : BankS → RepS → List ActS → Option (ActS × Nat) → Prop
 | full : s.acts = 200 → DoStep s log lost a s (errR 5) log lost
 | same (r : RepS) : s.acts ≠ 200 → r.code ≠ 0 → r.n = 0 → r.done = [] → (r.code = 7 ↔ s.down = true) → (s.down = true → a.kind ≠ 11) → DoStep s log lost a { s with acts := s.acts + 1 } r log lost
 | opened (log' : List ActS) : s.acts ≠ 200 → s.down = true → a.kind = 11 → (∀ x m, lost = some (x, m) → log' = log ∨ log' = log ++ [x]) → DoStep s log lost a { s with acts := s.acts + 1, c := (replayM log').1, ps := (replayM log').2, text := bytesOf log', down := false } ⟨0, log'.length, []⟩ log' none
 | failing : s.acts ≠ 200 → s.down = false → a.kind = 10 → (0 ≤ a.n ∧ a.n ≤ 4000) → DoStep s log lost a { s with acts := s.acts + 1, fail := a.n } (errR 0) log lost
 | fell (m : Nat) : s.acts ≠ 200 → s.down = false → a.kind ≠ 10 → a.kind ≠ 11 → 0 ≤ s.fail → m = s.fail.toNat → (nextM s.c s.ps a).code = 0 → noted a = true → DoStep s log lost a { s with acts := s.acts + 1, text := s.text ++ (frameOf a).take m, down := true, fail := -1 } (errR 7) log (some (a, m))
 | went : s.acts ≠ 200 → s.down = false → a.kind ≠ 10 → a.kind ≠ 11 → ¬ 0 ≤ s.fail → (nextM s.c s.ps a).code = 0 → noted a = true → DoStep s log lost a { s with acts := s.acts + 1, text := s.text ++ frameOf a, c := (nextM s.c s.ps a).c, ps := (nextM s.c s.ps a).ps } (nextM s.c s.ps a).rep (log ++ [a]) none
theorem next_code (c : H) (ps : List PayS) (a : ActS) : (nextM c ps a).code ≤ 6 := by
 unfold nextM
 simp only [Bool.cond_eq_ite]
 repeat' split
 all_goals simp [errN, sweepN]
theorem next_refused {c : H} {ps : List PayS} {a : ActS} (h : ¬ (nextM c ps a).code = 0) : (nextM c ps a).n = 0 ∧ (nextM c ps a).done = [] ∧ (nextM c ps a).code ≠ 7 := by
 have s := next_step c ps a
 have hc := next_code c ps a
 generalize nextM c ps a = r at s h hc
 refine ⟨?_, ?_, by omega⟩
 all_goals
   cases s with
   | err e he => rfl
   | close h1 => exact absurd rfl h
   | mid m => exact absurd rfl h
theorem do_step {s : BankS} {log : List ActS} {lost : Option (ActS × Nat)} (v : BInv s log lost) (a : ActS) : ∃ log' lost', DoStep s log lost a (doM s a).1 (doM s a).2 log' lost' ∧ BInv (doM s a).1 log' lost' := by
 have tick : BInv { s with acts := s.acts + 1 } log lost := ⟨v.noted, v.house, v.up, v.low, v.len⟩
 by_cases h200 : s.acts = 200
 · have e : doM s a = (s, errR 5) := by simp [doM, h200]
   rw [e]
   exact ⟨log, lost, .full h200, v⟩
 by_cases hk : a.kind = 11
 · cases hd : s.down with
   | false =>
     have e : doM s a = ({ s with acts := s.acts + 1 }, errR 2) := by simp [doM, h200, hk, hd]
     rw [e]
     exact ⟨log, lost, .same _ h200 (by simp [errR]) rfl rfl (by simp [errR, hd]) (by simp [hd]), tick⟩
   | true =>
     obtain ⟨x, m, hl, hx, ht, hf⟩ := v.low hd
     have e : doM s a = ({ s with acts := s.acts + 1, c := (replayM (readM s.text)).1, ps := (replayM (readM s.text)).2, text := bytesOf (readM s.text), down := false }, ⟨0, (readM s.text).length, []⟩) := by simp [doM, h200, hk, hd]
     rw [e]
     refine ⟨readM s.text, none, .opened _ h200 hd hk (fun y k hy => ?_), (readM_bytes s.text).2, rfl, fun _ => ⟨rfl, rfl⟩, fun h => (by cases h), ?_⟩
     · rw [hl] at hy
       simp at hy
       obtain ⟨rfl, rfl⟩ := hy
       rw [ht]
       exact read_lost v.noted hx
     · exact Nat.le_trans (readM_bytes s.text).1.length_le v.len
 cases hd : s.down with
 | true =>
   have e : doM s a = ({ s with acts := s.acts + 1 }, errR 7) := by simp [doM, h200, hk, hd]
   rw [e]
   exact ⟨log, lost, .same _ h200 (by simp [errR]) rfl rfl (by simp [errR, hd]) (fun _ => hk), tick⟩
 | false =>
   obtain ⟨ht, hlo⟩ := v.up hd
   by_cases h10 : a.kind = 10
   · cases hw : withinB a.n 0 4000 with
     | false =>
       have e : doM s a = ({ s with acts := s.acts + 1 }, errR 3) := by simp [doM, h200, hd, h10, hw]
       rw [e]
       exact ⟨log, lost, .same _ h200 (by simp [errR]) rfl rfl (by simp [errR, hd]) (by simp [hd]), tick⟩
     | true =>
       have e : doM s a = ({ s with acts := s.acts + 1, fail := a.n }, errR 0) := by simp [doM, h200, hd, h10, hw]
       rw [e]
       exact ⟨log, lost, .failing h200 hd h10 (within_iff.1 hw), v.noted, v.house, v.up, fun h => (by simp only at h; rw [hd] at h; cases h), v.len⟩
   · by_cases hc : (nextM s.c s.ps a).code = 0
     · cases hn : noted a with
       | false =>
         have e : doM s a = ({ s with acts := s.acts + 1 }, errR 3) := by simp [doM, h200, hk, hd, h10, hc, hn]
         rw [e]
         exact ⟨log, lost, .same _ h200 (by simp [errR]) rfl rfl (by simp [errR, hd]) (by simp [hd]), tick⟩
       | true =>
         by_cases hl : 4000 < s.text.length + (frameOf a).length
         · have e : doM s a = ({ s with acts := s.acts + 1 }, errR 5) := by simp [doM, h200, hk, hd, h10, hc, hn, hl]
           rw [e]
           exact ⟨log, lost, .same _ h200 (by simp [errR]) rfl rfl (by simp [errR, hd]) (by simp [hd]), tick⟩
         · by_cases hf : 0 ≤ s.fail
           · have e : doM s a = ({ s with acts := s.acts + 1, text := s.text ++ (frameOf a).take s.fail.toNat, down := true, fail := -1 }, errR 7) := by simp [doM, h200, hk, hd, h10, hc, hn, hl, hf]
             rw [e]
             exact ⟨log, some (a, s.fail.toNat), .fell _ h200 hd h10 hk hf rfl hc hn, v.noted, v.house, fun h => (by cases h), fun _ => ⟨a, _, rfl, hn, by simp only; rw [ht], rfl⟩, by
               simp only [List.length_append, List.length_take]; omega⟩
           · have e : doM s a = ({ s with acts := s.acts + 1, text := s.text ++ frameOf a, c := (nextM s.c s.ps a).c, ps := (nextM s.c s.ps a).ps }, (nextM s.c s.ps a).rep) := by simp [doM, h200, hk, hd, h10, hc, hn, hl, hf]
             rw [e]
             have hh := v.house
             have h1 : (replayM log).1 = s.c := by rw [← hh]
             have h2 : (replayM log).2 = s.ps := by rw [← hh]
             refine ⟨log ++ [a], none, .went h200 hd h10 hk hf hc hn, fun x hx => ?_, ?_, fun _ => ⟨?_, rfl⟩, fun h => (by simp only at h; rw [hd] at h; cases h), ?_⟩
             · rcases List.mem_append.1 hx with hx | hx
               · exact v.noted x hx
               · simp at hx; subst hx; exact hn
             · rw [replay_snoc, h1, h2]
             · simp only; rw [ht, bytes_app, bytes_one]
             · simp only [List.length_append]; omega
     · have e : doM s a = ({ s with acts := s.acts + 1 }, (nextM s.c s.ps a).rep) := by simp [doM, h200, hk, hd, h10, hc]
       rw [e]
       obtain ⟨h1, h2, h3⟩ := next_refused hc
       exact ⟨log, lost, .same _ h200 hc h1 h2 (by simp only [NR.rep, hd]; constructor; exact fun h => absurd h h3; intro h; cases h) (by simp [hd]), tick⟩
end Go.Proofs.YtmkboljfbmlebaaGreat
namespace Go.Proofs.YtmkboljfbmlebaaGreat
open Go.RowKit
set_option linter.unusedSimpArgs false
set_option linter.unusedVariables false
theorem inv_new : Inv 0 newM.core [] where
 len := by simp
 pays := fun p hp => by cases hp
 seqs := by simp
 next := ⟨Int.le_refl _, Int.le_refl _⟩
 cred := fun i hi => by show (0:Int) ≤ 0 ∧ (0:Int) ≤ 1000000; omega
 lim := fun i j hi hj => by show (-1:Int) ≤ -1 ∧ (-1:Int) ≤ 1000000; omega
 sums := fun i j hi hj => rfl
 ext := fun i hi => by show -(0 * 1000000) ≤ (0:Int) + (0 + 0 + 0 + 0) - (0 + 0 + 0 + 0) ∧ (0:Int) + (0 + 0 + 0 + 0) - (0 + 0 + 0 + 0) ≤ 0 * 1000000; omega
theorem rests_new : Rests newM.core [] := rests_none fun p hp => by cases hp
theorem replay_ok (log : List ActS) (h : log.length ≤ 900) : Inv log.length (replayM log).1 (replayM log).2 ∧ Rests (replayM log).1 (replayM log).2 := by
 obtain ⟨r, hr⟩ : ∃ r, r = log.reverse := ⟨_, rfl⟩
 induction r generalizing log with
 | nil =>
   have : log = [] := by have := congrArg List.reverse hr; simpa using this.symm
   subst this
   exact ⟨inv_new, rests_new⟩
 | cons a r ih =>
   have e : log = r.reverse ++ [a] := by have := congrArg List.reverse hr; simpa using this.symm
   subst e
   simp only [List.length_append, List.length_cons, List.length_nil] at h
   obtain ⟨h1, h2⟩ := ih r.reverse (by omega) (by simp)
   rw [replay_snoc]
   have hs := next_step (replayM r.reverse).1 (replayM r.reverse).2 a
   have hk : ((r.reverse.length : Nat) : Int) ≤ 900 := by omega
   refine ⟨?_, rests_act h1 hk h2 hs⟩
   have := h1.act hk hs
   simpa using this
structure BOk (s : BankS) (log : List ActS) (lost : Option (ActS × Nat)) : Prop where
 inv : BInv s log lost
 count : log.length + (if lost.isSome then 1 else 0) ≤ s.acts
 acts : s.acts ≤ 200
theorem bok_new : BOk newB [] none := ⟨newB_inv, by simp [newB], by simp [newB]⟩
theorem BOk.house {s : BankS} {log : List ActS} {lost : Option (ActS × Nat)} (b : BOk s log lost) : Inv 200 s.c s.ps ∧ Rests s.c s.ps := by
 have h1 := b.count
 have h2 := b.acts
 have hl : log.length ≤ 200 := by omega
 obtain ⟨i, r⟩ := replay_ok log (by omega)
 rw [← b.inv.house] at i r
 exact ⟨i.mono (by omega), r⟩
theorem BOk.act {s : BankS} {log : List ActS} {lost : Option (ActS × Nat)} (b : BOk s log lost) (a : ActS) : ∃ log' lost', DoStep s log lost a (doM s a).1 (doM s a).2 log' lost' ∧ BOk (doM s a).1 log' lost' := by
 obtain ⟨log', lost', st, v⟩ := do_step b.inv a
 refine ⟨log', lost', st, v, ?_, ?_⟩
 · have hc := b.count
   generalize (doM s a).1 = s' at st
   generalize (doM s a).2 = r at st
   cases st with
   | full h => exact hc
   | same r h1 h2 h3 h4 h5 h6 => simp only; omega
   | opened l h1 h2 h3 h4 =>
     obtain ⟨x, m, hl, _⟩ := b.inv.low h2
     subst hl
     simp only [Option.isSome_some, if_true] at hc
     rcases h4 x m rfl with rfl | rfl
     · simp; omega
     · simp only [List.length_append, List.length_cons, List.length_nil, Option.isSome_none, Bool.false_eq_true, if_false]; omega
   | failing h1 h2 h3 h4 => simp only; omega
   | fell m h1 h2 h3 h4 h5 h6 h7 h8 =>
     obtain ⟨_, hl⟩ := b.inv.up h2
     subst hl
     simp only [Option.isSome_none, Option.isSome_some, Bool.false_eq_true, if_false, if_true] at hc ⊢; omega
   | went h1 h2 h3 h4 h5 h6 h7 =>
     obtain ⟨_, hl⟩ := b.inv.up h2
     subst hl
     simp only [List.length_append, List.length_cons, List.length_nil, Option.isSome_none, Bool.false_eq_true, if_false] at hc ⊢; omega
 · have ha := b.acts
   generalize (doM s a).1 = s' at st
   generalize (doM s a).2 = r at st
   cases st <;> (try simp only) <;> omega
end Go.Proofs.YtmkboljfbmlebaaGreat
namespace Go.Proofs.YtmkboljfbmlebaaGreat
open Go.RowKit
set_option linter.unusedSimpArgs false
set_option linter.unusedVariables false
theorem next_len {c : H} {ps : List PayS} {a : ActS} (h : ps.length ≤ 24) : (nextM c ps a).ps.length ≤ 24 := by
 have s := next_step c ps a
 generalize nextM c ps a = r at s
 cases s with
 | err e he => exact h
 | close h1 => simpa using h
 | mid m =>
   simp only [sweepN]
   rw [(sweepM_len _ _).1]
   cases m <;> (try simp only [List.length_append, List.length_set, List.length_cons, List.length_nil, untie_len]) <;> omega
structure RpG where
 F : Addr → Value → Prop
 h : H
 k : Nat
structure RpOk (w : World) (xs : List ActS) (t : RpG) : Prop where
 k : t.k ≤ xs.length
 more : More (At w) t.F
 core : t.h.core = (replayM (xs.take t.k)).1
 pays : PaysIn (Young w t.F) t.h.pa t.h.pl (replayM (xs.take t.k)).2
 lc : t.h.pl ≤ t.h.pc
 len : t.h.pl ≤ 24
theorem rpOk_start {w : World} {xs : List ActS} : RpOk w xs ⟨At w, newM, 0⟩ :=
 ⟨Nat.zero_le _, fun _ _ h => h, by simp [replayM, replayFrom], ⟨by simp [replayM, replayFrom, newM], .inl rfl⟩, Nat.le_refl _, Nat.zero_le _⟩
theorem replay_take {xs : List ActS} {k : Nat} {a : ActS} (h : xs[k]? = some a) : replayM (xs.take (k + 1)) = ((nextM (replayM (xs.take k)).1 (replayM (xs.take k)).2 a).c, (nextM (replayM (xs.take k)).1 (replayM (xs.take k)).2 a).ps) := by
 rw [List.take_add_one, h]
 exact replay_snoc _ _
theorem RpOk.step {w : World} {xs : List ActS} {t : RpG} (o : RpOk w xs t) {a : ActS} (ha : xs[t.k]? = some a) {F' : Addr → Value → Prop} (hF : More t.F F') {h' : H} {ps : List PayS} (hps : ps = (replayM (xs.take t.k)).2) (hc : h'.core = (nextM t.h.core ps a).c) (hl : h'.pl ≤ h'.pc)
   (hp : (h'.pa = t.h.pa ∧ h'.pl = t.h.pl ∧ (nextM t.h.core ps a).ps = ps) ∨ PaysIn (Young w F') h'.pa h'.pl (nextM t.h.core ps a).ps) : RpOk w xs ⟨F', h', t.k + 1⟩ := by
 subst hps
 have hr := replay_take ha
 rw [o.core] at hc hp
 have hpays : PaysIn (Young w F') h'.pa h'.pl (nextM (replayM (xs.take t.k)).1 (replayM (xs.take t.k)).2 a).ps := by
   rcases hp with ⟨e1, e2, e3⟩ | hp
   · rw [e1, e2, e3]; exact o.pays.mono (young_mono hF)
   · exact hp
 refine ⟨(List.getElem?_eq_some_iff.1 ha).1, fun a v h => hF a v (o.more a v h), by simp only; rw [hr, hc], by simp only; rw [hr]; exact hpays, hl, ?_⟩
 have h1 := hpays.1
 have h2 := next_len (c := (replayM (xs.take t.k)).1) (ps := (replayM (xs.take t.k)).2) (a := a) (by rw [o.pays.1]; exact o.len)
 simp only; omega
theorem next_done (c : H) (ps : List PayS) (a : ActS) : (nextM c ps a).done.length ≤ 2 * ps.length + 1 := by
 have hs : ∀ (c1 : H) (ps1 : List PayS), (sweepM c1 ps1).xs.length ≤ ps1.length := fun c1 ps1 => (sweepM_len c1 ps1).2
 have hu := untie_xs_len (h := c) (ps := ps)
 have hul := untie_len c ps
 unfold nextM
 simp only [Bool.cond_eq_ite]
 repeat' split
 all_goals simp only [errN, sweepN, List.length_append, List.length_nil]
 all_goals first
   | omega
   | (have h1 := hs { c with next := c.next + 1 } (ps ++ [newPay c a]); simp only [List.length_append, List.length_cons, List.length_nil] at h1; omega)
   | (have h1 := hs (untieM c ps).c (untieM c ps).ps; omega)
   | (rename_i p _ _; have h1 := hs c (ps.set a.a.toNat { p with sta := 3 }); simp only [List.length_set] at h1; omega)
   | (refine Nat.le_trans (Nat.add_le_add_left (hs _ _) _) ?_; (try simp only [List.length_set, List.length_append, List.length_cons, List.length_nil]); omega)
theorem next_size (c : H) (ps : List PayS) (a : ActS) : (nextM c ps a).ps.length ≤ ps.length + 1 := by
 have hs : ∀ (c1 : H) (ps1 : List PayS), (sweepM c1 ps1).ps.length = ps1.length := fun c1 ps1 => (sweepM_len c1 ps1).1
 have hul := untie_len c ps
 unfold nextM
 simp only [Bool.cond_eq_ite]
 repeat' split
 all_goals simp only [errN, sweepN, hs, List.length_append, List.length_cons, List.length_nil, List.length_set, List.length_map]
 all_goals omega
def ReplayF (xs : List ActS) (F : Addr → Value → Prop) (v : Value) : Prop := ∃ h : H, v = .agg h.cells ∧ h.core = (replayM xs).1 ∧ h.pl ≤ h.pc ∧ h.pl ≤ 24 ∧ PaysIn F h.pa h.pl (replayM xs).2
theorem replayF_mono (xs : List ActS) : Mono (ReplayF xs) := by
 rintro F F' v hm ⟨h, h1, h2, h3, h4, h5⟩
 exact ⟨h, h1, h2, h3, h4, h5.mono hm⟩
end Go.Proofs.YtmkboljfbmlebaaGreat
namespace Go.Proofs.YtmkboljfbmlebaaGreat
open Go.RowKit
set_option linter.unusedSimpArgs false
set_option linter.unusedVariables false
def GivesW (P : Program) (k : FuncId) (args : List Value) (F : Addr → Value → Prop) (B : List (Nat × Obj)) (R : (Addr → Value → Prop) → Value → List (Nat × Obj) → Prop) : Prop :=
 ∀ (w0 : World) (K : List (Nat × Obj)) (w : World), Has w0 F (B ++ K) w → Calls P k args.toArray w fun e w' => ∃ v B' F', e = .returned v ∧ More F F' ∧ Has w0 F' (B' ++ K) w' ∧ R F' v B'
def retW (w0 : World) (F : Addr → Value → Prop) (K : List (Nat × Obj)) (R : (Addr → Value → Prop) → Value → List (Nat × Obj) → Prop) : Value → World → Prop :=
 fun v w' => ∃ B' F', More F F' ∧ Has w0 F' (B' ++ K) w' ∧ R F' v B'
theorem givesW_of {P : Program} {k : FuncId} {fn : Func} {c : Code} {m : Nat} {args : List Value} {B : List (Nat × Obj)} {F : Addr → Value → Prop} {R : (Addr → Value → Prop) → Value → List (Nat × Obj) → Prop}
   (hf : P.funcs[k]? = some fn) (hb : fn.body = some c) (hn : fn.ntmps = m) (hl : args.length ≤ m)
   (h : ∀ w0 K, cC P m c (retQ P fn m (retW w0 F K R)) (argF args) (Has w0 F (B ++ K))) : GivesW P k args F B R := fun w0 K w hw => by
 refine calls_of_wp hf hb ?_
 rw [hn, Fa_args m args hl]
 refine wp_mono (h w0 K w hw) ?_
 rintro e a w' ⟨f, rfl, hr⟩
 cases e <;> simp only [retQ] at hr
 · obtain ⟨v, h1, B', F', h2, h3, h4⟩ := hr; exact ⟨rfl, v, h1, v, B', F', rfl, h2, h3, h4⟩
 · obtain ⟨v, h1, B', F', h2, h3, h4⟩ := hr; exact ⟨rfl, v, h1, v, B', F', rfl, h2, h3, h4⟩
section
variable {P : Program} {ops : Array Oper} {K : (Nat → Value) → World → Prop} {rest : List Oper} {f : Nat → Value} {d : Nat} {ty : TypeId} {pos : String} {af : Array Edge} {w0 : World} {F : Addr → Value → Prop} {B E L : List (Nat × Obj)}
theorem s_weak {C C' : World → Prop} (hc : ∀ w, C w → C' w) (h : sC P ops K rest f C') : sC P ops K rest f C := fun w hw => h w (hc w hw)
theorem s_callW {k : FuncId} {xs : List Operand} {ats : Array TypeId} {R : (Addr → Value → Prop) → Value → List (Nat × Obj) → Prop} (hk : hasBody P k = true) (hg : GivesW P k (xs.map (ev f)) F B R)
   (kk : ∀ (F' : Addr → Value → Prop) (v : Value) (B' : List (Nat × Obj)), More F F' → R F' v B' → sC P ops K rest (upd f d v) (Has w0 F' (B' ++ L))) :
   sC P ops K (⟨some d, .call ⟨.value (.func k), xs.toArray, ats⟩, ty, pos, af, none⟩ :: rest) f (Has w0 F (B ++ L)) := by
 intro w hw
 unfold sw
 rw [if_pos wanted_free]
 unfold opk
 rw [run_call hk w]
 exact (hg w0 L w hw).mono fun e w' ⟨v, B', F', he, hm, h', hr⟩ => ⟨_, he, kk F' v B' hm hr w' h'⟩
theorem s_pushM {T e m by_ n mm c : Nat} {ats : Array TypeId} {x y : Operand} {v : Value} {xs news : List Value} {b o : Nat} (hT : rowB P T e m by_ = true) (hm : Nat.ble 1 m = true) (hbb : Nat.ble 1 by_ = true) (hat : ats = #[T, T])
   (hx : ev f x = v) (hy : ev f y = .slice (some ⟨b, o, none⟩) mm c) (hE : ListE e m v n xs E) (hl : news.length = mm * m) (hnews : ∀ w, Has w0 F (E ++ L) w → ∀ j u, news[j]? = some u → w.cell? ⟨b, o + j, none⟩ = some u) (h1 : ∀ u ∈ news, u.oneCell' = true) (hpos : 0 < mm) (hbytes : (n + mm) * by_ ≤ 140737488355328)
   (kk : ∀ v' E', ListE e m v' (n + mm) (xs ++ news) E' → sC P ops K rest (upd f d v') (Has w0 F (E' ++ L))) :
   sC P ops K (⟨some d, .call ⟨.builtin .append, #[x, y], ats⟩, ty, pos, af, none⟩ :: rest) f (Has w0 F (E ++ L)) := by
 intro w hw
 subst hat
 unfold sw
 rw [if_pos wanted_free]
 unfold opk
 obtain ⟨v', E', w', hr, hE', hw'⟩ := run_appendE (P := P) (w0 := w0) (F := F) (L := L) (c := c) (ty := ty) (b := b) (o := o) (mm := mm) (news := news) hT (Nat.le_of_ble_eq_true hm) hE hw hl (hnews w hw) h1 hpos hbytes (Nat.le_of_ble_eq_true hbb)
 have : (execOp (ev f) ⟨some d, .call ⟨.builtin .append, #[x, y], #[T, T]⟩, ty, pos, af, none⟩).run P w = .ok (.value v') w' := by
   simp [execOp, resolve, invoke, builtin, hx, hy, hr]
 rw [this]
 exact kk v' E' hE' w' hw'
theorem s_pushN {T e m by_ n mm : Nat} {ats : Array TypeId} {x y : Operand} {v : Value} {xs : List Value} {b : Nat} {cs : Array Value} (hT : rowB P T e m by_ = true) (hm : Nat.ble 1 m = true) (hbb : Nat.ble 1 by_ = true) (hat : ats = #[T, T])
   (hx : ev f x = v) (hy : ev f y = .slice (some ⟨b, 0, none⟩) mm mm) (hE : ListE e m v n xs E) (hs : cs.size = mm * m) (h1 : cs.all (·.oneCell') = true) (hpos : 0 < mm) (hbytes : (n + mm) * by_ ≤ 140737488355328)
   (kk : ∀ v' E', ListE e m v' (n + mm) (xs ++ cs.toList) E' → sC P ops K rest (upd f d v') (Has w0 F (E' ++ L))) :
   sC P ops K (⟨some d, .call ⟨.builtin .append, #[x, y], ats⟩, ty, pos, af, none⟩ :: rest) f (Has w0 F ((b, .cells cs e) :: (E ++ L))) := by
 intro w hw
 subst hat
 unfold sw
 rw [if_pos wanted_free]
 unfold opk
 obtain ⟨v', E', w', hr, hE', hw'⟩ := run_appendE (P := P) (w0 := w0) (F := F) (L := L) (c := mm) (ty := ty) (b := b) (o := 0) (mm := mm) (news := cs.toList) hT (Nat.le_of_ble_eq_true hm) hE hw.tail (by simp [hs]) (fun j u hj => by
   rw [Nat.zero_add, cell_has hw .here]; simpa using hj) (fun u hu => by rw [Array.all_eq_true_iff_forall_mem] at h1; exact h1 u (by simpa using hu)) hpos hbytes (Nat.le_of_ble_eq_true hbb)
 have : (execOp (ev f) ⟨some d, .call ⟨.builtin .append, #[x, y], #[T, T]⟩, ty, pos, af, none⟩).run P w = .ok (.value v') w' := by
   simp [execOp, resolve, invoke, builtin, hx, hy, hr]
 rw [this]
 exact kk v' E' hE' w' hw'
end
def u8s (l : List Nat) : List Value := l.map fun n : Nat => U8 (n : Int)
theorem u8s_len (l : List Nat) : (u8s l).length = l.length := by simp [u8s]
theorem u8s_append (l m : List Nat) : u8s (l ++ m) = u8s l ++ u8s m := by simp [u8s]
theorem u8s_one (l : List Nat) : ∀ u ∈ u8s l, u.oneCell' = true := fun u hu => by
 obtain ⟨q, _, rfl⟩ := List.mem_map.1 hu
 rfl
def BytesAt (F : Addr → Value → Prop) (a : Option Addr) (l : List Nat) : Prop := l = [] ∨ ∃ b o, a = some ⟨b, o, none⟩ ∧ ∀ (j m : Nat), l[j]? = some m → F ⟨b, o + j, none⟩ (U8 m)
theorem BytesAt.get {F : Addr → Value → Prop} {a : Option Addr} {l : List Nat} (h : BytesAt F a l) {j : Nat} (hj : j < l.length) : ∃ b o m, a = some ⟨b, o, none⟩ ∧ l[j]? = some m ∧ F ⟨b, o + j, none⟩ (U8 m) := by
 rcases h with rfl | ⟨b, o, h1, h2⟩
 · simp at hj
 · exact ⟨b, o, l[j], h1, by simp [hj], h2 j _ (by simp [hj])⟩
abbrev Bytes (e : Nat) (v : Value) (l : List Nat) (E : List (Nat × Obj)) : Prop := ListE e 1 v l.length (u8s l) E
theorem byts_nil (e : Nat) : Bytes e (.slice none 0 0) [] [] := listE_nil e 1
theorem Bytes.slice {e : Nat} {v : Value} {l : List Nat} {E : List (Nat × Obj)} (h : Bytes e v l E) : ∃ a c, v = .slice a l.length c ∧ ∀ {w0 w : World} {F : Addr → Value → Prop} {L : List (Nat × Obj)}, Has w0 F L w → (∀ p ∈ E, p ∈ L) → BytesAt (At w) a l := by
 rcases h.2 with ⟨rfl, h2, rfl⟩ | ⟨g, cap, cur, rfl, rfl, h3, h4, h5, h6⟩
 · exact ⟨none, 0, by rw [h2], fun _ _ => .inl (List.eq_nil_of_length_eq_zero h2)⟩
 · refine ⟨_, _, rfl, fun {w0 w F L} hw hs => .inr ⟨g, 0, rfl, fun j m hj => ?_⟩⟩
   show w.cell? _ = _
   rw [Nat.zero_add, cell_of_row w g j cur e (0, 0) (hw.2.2.1 (g, .cells cur e (0, 0)) (hs _ (by simp))).2]
   have e1 : (u8s l)[j]? = some (U8 m) := by simp [u8s, hj]
   rw [← h6, List.getElem?_take] at e1
   split at e1
   · simpa using e1
   · cases e1
theorem Bytes.block {e : Nat} {v : Value} {l : List Nat} {E : List (Nat × Obj)} (h : Bytes e v l E) (h0 : 0 < l.length) : ∃ g c cs, v = .slice (some ⟨g, 0, none⟩) l.length c ∧ E = [(g, .cells cs e (0, 0))] ∧ ∀ (j m : Nat), l[j]? = some m → cs[j]? = some (U8 m) := by
 rcases h.2 with ⟨rfl, h2, rfl⟩ | ⟨g, cap, cur, rfl, rfl, h3, h4, h5, h6⟩
 · omega
 · refine ⟨g, cap, cur, rfl, rfl, fun j m hj => ?_⟩
   have e1 : (u8s l)[j]? = some (U8 m) := by simp [u8s, hj]
   rw [← h6, List.getElem?_take] at e1
   split at e1
   · simpa using e1
   · cases e1
theorem byts_one (e b n : Nat) : Bytes e (.slice (some ⟨b, 0, none⟩) 1 1) [n] [(b, .cells #[U8 (n : Int)] e)] :=
 ⟨rfl, .inr ⟨b, 1, #[U8 (n : Int)], rfl, rfl, Nat.le_refl _, by decide, rfl, rfl⟩⟩
section
variable {P : Program} {f : Nat → Value} {dst : Option Nat} {ty : TypeId} {pos : String} {af : Array Edge} {gd : Option (Nat × Bool)} {w0 : World} {F : Addr → Value → Prop} {C : World → Prop} {E L : List (Nat × Obj)}
theorem v_strOfE {x : Operand} {Sx T e : Nat} {v : Value} {l : List Nat} (hS : bytesB P Sx = true) (hT : strB P T = true) (hx : ev f x = v) (hE : Bytes e v l E) (h0 : 0 < l.length) (hb : Byt l) :
   Val P f (Has w0 F (E ++ L)) ⟨dst, .convert Sx T x, ty, pos, af, gd⟩ (S l) := by
 obtain ⟨g, c, cs, rfl, rfl, hc⟩ := hE.block h0
 exact v_strOf hS hT hx rfl (.here) hb hc
theorem v_shl {x y : Operand} {t t' : TypeId} {a b c : Int} (hx : ev f x = .int .i64 a) (hy : ev f y = .int .i64 b) (hb : 0 ≤ b ∧ b ≤ 64) (hc : IntKind.i64.wrap (a * 2 ^ b.toNat) = c) : Val P f C ⟨dst, .binOp .shl t x y t', ty, pos, af, gd⟩ (.int .i64 c) :=
 ⟨fun w _ => by
   have h1 := shift_shl .i64 .i64 a b hb.1 (show b ≤ 64 from hb.2)
   rw [hc] at h1
   simp [execOp, hx, hy, eqGuard, binOp, h1]
   exact hc⟩
end
section
variable {P : Program} {fn : Func} {n t t2 t3 T b m ty : Nat} {fr : Nat × Nat} {cs : Array Value} {f : Nat → Value} {v : Value} {w0 : World} {F F0 : Addr → Value → Prop} {L K B' : List (Nat × Obj)} {R : (Addr → Value → Prop) → Value → List (Nat × Obj) → Prop}
theorem n_doneW (hr : fn.results = #[.tmp t]) (ht : t < n) (hm : More F0 F) (hs : ∀ w, Has w0 F L w → Has w0 F (B' ++ K) w) (hv : R F (f t) B') : nC (retQ P fn n (retW w0 F0 K R)) .ret f (Has w0 F L) :=
 fun w hw => ⟨f t, results_one hr ht w, B', F, hm, hs w hw, hv⟩
theorem n_done3 (hr : fn.results = #[.tmp t, .tmp t2, .tmp t3]) (ht : t < n) (ht2 : t2 < n) (ht3 : t3 < n) (hv : .tuple #[f t, f t2, f t3] = v) :
   nC (retQ P fn n (fun v' w' => v' = v ∧ Bel w0.heap.size w0 w')) .ret f (Has w0 F L) := fun w hw => by
 refine ⟨.tuple #[f t, f t2, f t3], ?_, hv, hw.1⟩
 have e : (Fa n f).tmps[t]?.getD undef = f t := by simp [Fa, ht]
 have e2 : (Fa n f).tmps[t2]?.getD undef = f t2 := by simp [Fa, ht2]
 have e3 : (Fa n f).tmps[t3]?.getD undef = f t3 := by simp [Fa, ht3]
 simp [results, hr, e, e2, e3]
theorem n_doneCT (hr : fn.results = #[.cell t T, .tmp t2]) (ht : t < n) (ht2 : t2 < n) (hp : f t = .pointer (some ⟨b, 0, none⟩))
   (hT : aggB P T m = true) (hl : Look L b (.cells cs ty fr)) (hm : cs.size = m) (hv : .tuple #[.agg cs, f t2] = v) : nC (retQ P fn n (fun v' w' => v' = v ∧ Bel w0.heap.size w0 w')) .ret f (Has w0 F L) := fun w hw => by
 refine ⟨.tuple #[.agg cs, f t2], ?_, hv, hw.1⟩
 have e : (Fa n f).tmps[t]?.getD undef = f t := by simp [Fa, ht]
 have e2 : (Fa n f).tmps[t2]?.getD undef = f t2 := by simp [Fa, ht2]
 subst hm
 have := run_loadN (P := P) (w := w) (b := b) (o := 0) (cs := cs.toList) (by simpa using hT) (fun j v hj => by
   rw [cell_has hw hl]; simpa using hj)
 simp only [Instr.loadAt, Instr.sureAddr, Sem.run_bind, Sem.run_pure, Result.andThen] at this
 simp [results, hr, e, e2, hp, asAddr, this]
theorem n_doneCTT (hr : fn.results = #[.cell t T, .tmp t2, .tmp t3]) (ht : t < n) (ht2 : t2 < n) (ht3 : t3 < n) (hp : f t = .pointer (some ⟨b, 0, none⟩))
   (hT : aggB P T m = true) (hl : Look L b (.cells cs ty fr)) (hm : cs.size = m) (hv : .tuple #[.agg cs, f t2, f t3] = v) : nC (retQ P fn n (fun v' w' => v' = v ∧ Bel w0.heap.size w0 w')) .ret f (Has w0 F L) := fun w hw => by
 refine ⟨.tuple #[.agg cs, f t2, f t3], ?_, hv, hw.1⟩
 have e : (Fa n f).tmps[t]?.getD undef = f t := by simp [Fa, ht]
 have e2 : (Fa n f).tmps[t2]?.getD undef = f t2 := by simp [Fa, ht2]
 have e3 : (Fa n f).tmps[t3]?.getD undef = f t3 := by simp [Fa, ht3]
 subst hm
 have := run_loadN (P := P) (w := w) (b := b) (o := 0) (cs := cs.toList) (by simpa using hT) (fun j v hj => by
   rw [cell_has hw hl]; simpa using hj)
 simp only [Instr.loadAt, Instr.sureAddr, Sem.run_bind, Sem.run_pure, Result.andThen] at this
 simp [results, hr, e, e2, e3, hp, asAddr, this]
end
theorem Has.less {w0 w : World} {F F' : Addr → Value → Prop} {L : List (Nat × Obj)} (h : Has w0 F' L w) (hm : More F F') : Has w0 F L w := ⟨h.1, h.2.1, h.2.2.1, fun a v hF => h.2.2.2 a v (hm a v hF)⟩
theorem s_callB {P : Program} {ops : Array Oper} {K : (Nat → Value) → World → Prop} {rest : List Oper} {f : Nat → Value} {d : Nat} {ty : TypeId} {pos : String} {af : Array Edge} {w0 : World} {F : Addr → Value → Prop} {B L : List (Nat × Obj)}
   {k : FuncId} {xs : List Operand} {ats : Array TypeId} {R : Value → List (Nat × Obj) → Prop} (hk : hasBody P k = true) (hg : GivesW P k (xs.map (ev f)) F B (fun _ v B' => R v B'))
   (kk : ∀ (v : Value) (B' : List (Nat × Obj)), R v B' → sC P ops K rest (upd f d v) (Has w0 F (B' ++ L))) :
   sC P ops K (⟨some d, .call ⟨.value (.func k), xs.toArray, ats⟩, ty, pos, af, none⟩ :: rest) f (Has w0 F (B ++ L)) :=
 s_callW hk hg fun _ v B' hm hr => s_weak (fun _ hw => hw.less hm) (kk v B' hr)
theorem Bytes.snoc {e : Nat} {v : Value} {l : List Nat} {E : List (Nat × Obj)} {x : Int} {b : Nat} (h : ListE e 1 v (l.length + 1) (u8s l ++ (U8 x).cells.toList) E) (hx : x = (b : Int)) : Bytes e v (l ++ [b]) E := by
 subst hx
 unfold Bytes
 rw [u8s_append, List.length_append]
 exact h
theorem Bytes.push {e : Nat} {v : Value} {l m : List Nat} {E : List (Nat × Obj)} (h : ListE e 1 v (l.length + m.length) (u8s l ++ u8s m) E) : Bytes e v (l ++ m) E := by
 unfold Bytes
 rw [u8s_append, List.length_append]
 exact h
def bodyTo (a : ActS) (k : Nat) : List Nat := (a.list.take k).flatMap fun n => digs (zig n)
theorem body_five (a : ActS) : bodyTo a 5 = bodyOf a := by simp [bodyTo, bodyOf, ActS.list]
theorem body_step {a : ActS} {k : Nat} {n : Int} (h : a.list[k]? = some n) : bodyTo a (k + 1) = bodyTo a k ++ digs (zig n) := by
 unfold bodyTo
 rw [List.take_add_one, h]; simp
theorem noted_list {a : ActS} (h : noted a = true) {k : Nat} {n : Int} (hk : a.list[k]? = some n) : notedI n = true := by
 obtain ⟨h1, h2, h3, h4, h5⟩ := noted_all h
 have := List.mem_of_getElem? hk
 simp only [ActS.list, List.mem_cons, List.not_mem_nil, or_false] at this
 rcases this with rfl | rfl | rfl | rfl | rfl <;> assumption
theorem body_room {a : ActS} (h : noted a = true) : ∀ k, (bodyTo a k).length ≤ 5 * k
 | 0 => by simp [bodyTo]
 | k + 1 => by
   have ih := body_room h k
   cases hk : a.list[k]? with
   | none => unfold bodyTo at ih ⊢; rw [List.take_add_one, hk]; simp only [Option.toList_none, List.append_nil]; omega
   | some n =>
     have := digs_len5 (noted_list h hk)
     rw [body_step hk, List.length_append]; omega
theorem ActS.get (a : ActS) {k : Nat} (hk : k < 5) : ∃ n, a.list[k]? = some n ∧ a.cells[((k : Nat) : Int).toNat * 1]? = some (I n) := by
 have : k = 0 ∨ k = 1 ∨ k = 2 ∨ k = 3 ∨ k = 4 := by omega
 rcases this with rfl | rfl | rfl | rfl | rfl <;> exact ⟨_, rfl, rfl⟩
structure FB where
 k : Nat
 v : Value
 E : List (Nat × Obj)
structure AN where
 u : Nat
 m : List Nat
 v : Value
 E : List (Nat × Obj)
structure Dig5 (t : List Nat) (j u : Nat) : Prop where
 j5 : j ≤ 5
 ub : u < 128 ^ j
 jl : j ≤ t.length
 rel : undig 5 t = (undig (5 - j) (t.drop j)).map fun p => (u + 128 ^ j * p.1, p.2)
theorem dig5_start (t : List Nat) : Dig5 t 0 0 := ⟨by omega, by decide, by omega, by
 simp only [Nat.sub_zero, List.drop_zero, Nat.pow_zero, Nat.one_mul, Nat.zero_add]
 cases undig 5 t <;> rfl⟩
theorem Dig5.step {t : List Nat} {j u b : Nat} (o : Dig5 t j u) (hb : t[j]? = some b) (h1 : ¬ b < 128) (h2 : b < 256) (hj : j < 5) : Dig5 t (j + 1) (u + b % 128 * 128 ^ j) := by
 have e : b % 128 = b - 128 := by omega
 rw [e]
 refine ⟨by omega, ?_, (List.getElem?_eq_some_iff.1 hb).1, ?_⟩
 · have := o.ub
   have h3 : (b - 128) * 128 ^ j ≤ 127 * 128 ^ j := Nat.mul_le_mul_right _ (by omega)
   rw [Nat.pow_succ]; omega
 · rw [o.rel, drop_cons hb, show 5 - j = (5 - (j + 1)) + 1 by omega, undig, if_neg (by omega)]
   cases undig (5 - (j + 1)) (t.drop (j + 1)) with
   | none => rfl
   | some p =>
     simp only [Option.map_some]
     congr 2
     rw [Nat.mul_add, Nat.pow_succ, ← Nat.mul_assoc, Nat.mul_comm (128 ^ j) (b - 128), Nat.add_assoc]
theorem Dig5.stop {t : List Nat} {j u : Nat} (o : Dig5 t j u) (h : t.length ≤ j ∨ 5 ≤ j) : undig 5 t = none := by
 have h5 := o.j5
 rw [o.rel]
 by_cases e : j = 5
 · subst e; rfl
 · rw [List.drop_eq_nil_of_le (by omega), show 5 - j = (4 - j) + 1 by omega]; rfl
theorem Dig5.last {t : List Nat} {j u b : Nat} (o : Dig5 t j u) (hb : t[j]? = some b) (h1 : b < 128) (hj : j < 5) : undig 5 t = some (u + b % 128 * 128 ^ j, t.drop (j + 1)) := by
 rw [Nat.mod_eq_of_lt h1, o.rel, drop_cons hb, show 5 - j = (4 - j) + 1 by omega, undig, if_pos h1, Option.map_some, Nat.mul_comm (128 ^ j) b]
theorem pow5 {j : Nat} (h : j < 5) : 128 ^ j ≤ 268435456 ∧ (2 : Int) ^ ((7 : Int) * ((j : Nat) : Int)).toNat = ((128 ^ j : Nat) : Int) := by
 have : j = 0 ∨ j = 1 ∨ j = 2 ∨ j = 3 ∨ j = 4 := by omega
 rcases this with rfl | rfl | rfl | rfl | rfl <;> exact ⟨by decide, rfl⟩
theorem dig5_fits {b p : Nat} (hp : p ≤ 268435456) : b % 128 * p ≤ 34359738368 := by
 have : b % 128 * p ≤ 127 * 268435456 := Nat.mul_le_mul (by omega) hp
 omega
theorem shl5 {b j : Nat} (hj : j < 5) : IntKind.i64.wrap (((b % 128 : Nat) : Int) * 2 ^ ((7 : Int) * ((j : Nat) : Int)).toNat) = ((b % 128 * 128 ^ j : Nat) : Int) := by
 rw [(pow5 hj).2, ← Int.natCast_mul]
 have := dig5_fits (b := b) (pow5 hj).1
 exact wr_in (by omega) (by omega)
def rnV (l : List Nat) : Int := match undig 5 l with
 | none => 0
 | some p => zag p.1
def rnK (l : List Nat) : Nat := match undig 5 l with
 | none => 0
 | some p => l.length - p.2.length
def rnB (l : List Nat) : Bool := (undig 5 l).isSome
def numR (l : List Nat) : Value := .tuple #[I (rnV l), I (rnK l : Nat), .bool (rnB l)]
theorem numR_no {l : List Nat} (h : undig 5 l = none) : .tuple #[I 0, I 0, .bool false] = numR l := by simp [numR, rnV, rnK, rnB, h]
theorem numR_yes {l : List Nat} {u j : Nat} (h : undig 5 l = some (u, l.drop (j + 1))) (hj : j < l.length) : .tuple #[I (zag u), I ((j : Int) + 1), .bool true] = numR l := by
 simp only [numR, rnV, rnK, rnB, h, Option.isSome_some, List.length_drop]
 congr 5
 omega
theorem zag_odd5 {u : Nat} (h : ¬ ((u % 2 : Nat) : Int) = 0) : (-((u : Int) + 1)).tdiv 2 = zag u := by
 unfold zag
 rw [if_pos (by omega), Int.neg_tdiv, show ((u : Int) + 1).tdiv 2 = (((u + 1) / 2 : Nat) : Int) from tdiv_nat (u + 1) 2]
 omega
theorem zag_even5 {u : Nat} (h : ((u % 2 : Nat) : Int) = 0) : ((u / 2 : Nat) : Int) = zag u := by unfold zag; rw [if_neg (by omega)]
theorem zag_bound (u : Nat) : -(u : Int) - 1 ≤ zag u ∧ zag u ≤ u := by unfold zag; split <;> omega
theorem undig_drop : ∀ (f : Nat) {l : List Nat} {u : Nat} {r : List Nat}, undig f l = some (u, r) → ∃ k, k ≤ l.length ∧ r = l.drop k
 | 0, l, u, r, h => by simp [undig] at h
 | f + 1, [], u, r, h => by simp [undig] at h
 | f + 1, b :: l, u, r, h => by
   unfold undig at h
   split at h
   · simp at h
     exact ⟨1, by simp, h.2.symm⟩
   · cases hq : undig f l with
     | none => rw [hq] at h; cases h
     | some p =>
       rw [hq] at h
       simp at h
       obtain ⟨k, h2, h3⟩ := undig_drop f (show undig f l = some (p.1, p.2) from hq)
       exact ⟨k + 1, by simp only [List.length_cons]; omega, by rw [← h.2, h3]; rfl⟩
theorem rn_yes {l : List Nat} (h : rnB l = true) : ∃ u, undig 5 l = some (u, l.drop (rnK l)) ∧ rnV l = zag u ∧ rnK l ≤ l.length := by
 unfold rnB at h
 cases hq : undig 5 l with
 | none => rw [hq] at h; cases h
 | some p =>
   obtain ⟨k, h2, h3⟩ := undig_drop 5 (show undig 5 l = some (p.1, p.2) from hq)
   have e : rnK l = k := by
     simp only [rnK, hq, h3, List.length_drop]; omega
   refine ⟨p.1, by rw [e, ← h3], by simp [rnV, hq], by omega⟩
theorem rn_no {l : List Nat} (h : rnB l = false) : undig 5 l = none := by
 unfold rnB at h
 cases hq : undig 5 l with
 | none => rfl
 | some p => rw [hq] at h; cases h
def nums5 : Nat → List Nat → Option (List Nat × List Nat)
 | 0, l => some ([], l)
 | k + 1, l => match nums5 k l with
   | none => none
   | some (us, t) => (undig 5 t).map fun p => (us ++ [p.1], p.2)
theorem nums5_step {k : Nat} {l us t : List Nat} (h : nums5 k l = some (us, t)) : nums5 (k + 1) l = (undig 5 t).map fun p => (us ++ [p.1], p.2) := by simp only [nums5, h]
theorem nums5_none {k : Nat} {l : List Nat} (h : nums5 k l = none) : ∀ m, nums5 (k + m) l = none
 | 0 => h
 | m + 1 => by
   have := nums5_none h m
   rw [show k + (m + 1) = (k + m) + 1 by omega]
   simp only [nums5, this]
theorem nums5_body {x : ActS} (h : noted x = true) (r : List Nat) : nums5 5 (bodyOf x ++ r) = some ([zig x.kind, zig x.a, zig x.b, zig x.c, zig x.n], r) := by
 obtain ⟨h1, h2, h3, h4, h5⟩ := noted_all h
 have e1 := undig_digs 4 _ (digs (zig x.a) ++ (digs (zig x.b) ++ (digs (zig x.c) ++ (digs (zig x.n) ++ r)))) (zig_lt h1)
 have e2 := undig_digs 4 _ (digs (zig x.b) ++ (digs (zig x.c) ++ (digs (zig x.n) ++ r))) (zig_lt h2)
 have e3 := undig_digs 4 _ (digs (zig x.c) ++ (digs (zig x.n) ++ r)) (zig_lt h3)
 have e4 := undig_digs 4 _ (digs (zig x.n) ++ r) (zig_lt h4)
 have e5 := undig_digs 4 _ r (zig_lt h5)
 simp only [nums5, bodyOf, List.append_assoc]
 simp only [e1, e2, e3, e4, e5, Option.map_some]
 rfl
def gNums (l : List Nat) : Option (List Nat × List Nat) := nums5 5 (l.drop 1)
def zeroA : ActS := ⟨0, 0, 0, 0, 0⟩
def gAct (l : List Nat) : ActS := match gNums l with
 | none => zeroA
 | some p => actOf p.1
def gOk (l : List Nat) : Bool := (gNums l).isSome
def guessR (l : List Nat) : Value := .tuple #[.agg (gAct l).cells, .bool (gOk l)]
theorem guess_no {l : List Nat} (h : gNums l = none) : .tuple #[.agg zeroA.cells, .bool false] = guessR l := by simp [guessR, gAct, gOk, h]
theorem guess_yes {l us t : List Nat} (h : gNums l = some (us, t)) (hu : us.length = 5) : .tuple #[.agg (act5 us).cells, .bool true] = guessR l := by simp [guessR, gAct, gOk, h, act5_of hu]
structure GS where
 k : Nat
 us : List Nat
 rest : List Nat
structure GsOk (B : List Nat) (s : GS) : Prop where
 k5 : s.k ≤ 5
 ul : s.us.length = s.k
 run : nums5 s.k B = some (s.us, s.rest)
 byt : Byt s.rest
 len : s.rest.length ≤ B.length
theorem GsOk.start {l : List Nat} (hb : Byt l) : GsOk (l.drop 1) ⟨0, [], l.drop 1⟩ := ⟨Nat.zero_le _, rfl, rfl, hb.drop 1, Nat.le_refl _⟩
theorem GsOk.next {B : List Nat} {s : GS} (o : GsOk B s) (hk : s.k < 5) {u : Nat} (hu : undig 5 s.rest = some (u, s.rest.drop (rnK s.rest))) : GsOk B ⟨s.k + 1, s.us ++ [u], s.rest.drop (rnK s.rest)⟩ := by
 have h1 := o.len
 refine ⟨hk, by simp [o.ul], ?_, o.byt.drop _, by simp only [List.length_drop]; omega⟩
 rw [nums5_step o.run, hu]; rfl
theorem GsOk.gone {B : List Nat} {s : GS} (o : GsOk B s) (hk : s.k < 5) (hu : undig 5 s.rest = none) : nums5 5 B = none := by
 have h1 : nums5 (s.k + 1) B = none := by rw [nums5_step o.run, hu]; rfl
 have := nums5_none h1 (4 - s.k)
 rwa [show s.k + 1 + (4 - s.k) = 5 by omega] at this
theorem guess_nil {l : List Nat} (h : l = []) : gNums l = none := by subst h; rfl
theorem stands_nums {x : ActS} {l : List Nat} (h : Stands x l) : ∃ t, gNums l = some ([zig x.kind, zig x.a, zig x.b, zig x.c, zig x.n], t) := by
 obtain ⟨nx, r, hr⟩ := h
 have e : l.drop 1 = bodyOf x ++ ([(sumOf (bodyOf x)).1 % 251, (sumOf (bodyOf x)).2 % 251] ++ r) := by rw [← hr]; simp [frameOf]
 exact ⟨_, by unfold gNums; rw [e]; exact nums5_body nx _⟩
theorem first_gone {l : List Nat} (h : gOk l = false) : first? l = none := (first_none _).2 fun x hx => by
 obtain ⟨t, ht⟩ := stands_nums hx
 simp [gOk, ht] at h
theorem first_other {l : List Nat} (h : gOk l = true) (hno : ¬ (noted (gAct l) = true ∧ frameOf (gAct l) <+: l)) : first? l = none := (first_none _).2 fun x hx => by
 obtain ⟨t, ht⟩ := stands_nums hx
 have e : gAct l = x := by simp only [gAct, ht]; exact actOf_zig x
 rw [e] at hno
 exact hno hx
theorem first_this {l : List Nat} (h1 : noted (gAct l) = true) (h2 : frameOf (gAct l) <+: l) : first? l = some (gAct l) := (first_iff _ _).2 ⟨h1, h2⟩
def rfAct (l : List Nat) : ActS := (first? l).getD zeroA
def rfLen (l : List Nat) : Nat := match first? l with
 | none => 0
 | some x => (frameOf x).length
def rfOk (l : List Nat) : Bool := (first? l).isSome
def frontR (l : List Nat) : Value := .tuple #[.agg (rfAct l).cells, I (rfLen l : Nat), .bool (rfOk l)]
theorem front_no {l : List Nat} (h : first? l = none) : .tuple #[.agg zeroA.cells, I 0, .bool false] = frontR l := by simp [frontR, rfAct, rfLen, rfOk, h]
theorem front_yes {l : List Nat} {x : ActS} (h : first? l = some x) : .tuple #[.agg x.cells, I ((frameOf x).length : Nat), .bool true] = frontR l := by simp [frontR, rfAct, rfLen, rfOk, h]
theorem rf_yes {l : List Nat} (h : rfOk l = true) : first? l = some (rfAct l) ∧ rfLen l = (frameOf (rfAct l)).length := by
 unfold rfOk at h
 cases hq : first? l with
 | none => rw [hq] at h; cases h
 | some x => exact ⟨by simp [rfAct, hq], by simp [rfAct, rfLen, hq]⟩
theorem rf_no {l : List Nat} (h : rfOk l = false) : first? l = none := by
 unfold rfOk at h
 cases hq : first? l with
 | none => rfl
 | some x => rw [hq] at h; cases h
def begins (l f : List Nat) : Bool := decide (l.take f.length = f)
theorem begins_iff {l f : List Nat} : begins l f = true ↔ f <+: l := by
 unfold begins
 rw [decide_eq_true_iff, List.prefix_iff_eq_take]
 exact eq_comm
theorem begins_short {l f : List Nat} (h : ¬ f.length ≤ l.length) : begins l f = false := by
 cases hq : begins l f with
 | false => rfl
 | true => exact absurd (begins_iff.1 hq).length_le h
section
variable {P : Program} {f : Nat → Value} {dst : Option Nat} {ty : TypeId} {pos : String} {af : Array Edge} {gd : Option (Nat × Bool)} {C : World → Prop}
def least (a b : Int) : Int := if b < a then b else a
theorem v_least {x y : Operand} {ats : Array TypeId} {a b : Int} (hx : ev f x = I a) (hy : ev f y = I b) : Val P f C ⟨dst, .call ⟨.builtin .min, #[x, y], ats⟩, ty, pos, af, gd⟩ (I (least a b)) :=
 ⟨fun w _ => by simp [execOp, resolve, invoke, builtin, hx, hy, Builtin.min_, Builtin.min2, least]⟩
end
end Go.Proofs.YtmkboljfbmlebaaGreat
namespace Go.Proofs.YtmkboljfbmlebaaGreat
open Go.RowKit
set_option linter.unusedSimpArgs false
set_option linter.unusedVariables false
set_option maxRecDepth 100000
section
variable {P : Program} {ops : Array Oper} {K : (Nat → Value) → World → Prop} {rest : List Oper} {f : Nat → Value} {d : Nat} {ty : TypeId} {pos : String} {af : Array Edge} {w0 : World} {F : Addr → Value → Prop} {B L : List (Nat × Obj)}
end
section
variable {P : Program} {fn : Func} {n t t2 : Nat} {f : Nat → Value} {w0 : World} {F0 F : Addr → Value → Prop} {L K B' : List (Nat × Obj)} {R : (Addr → Value → Prop) → Value → List (Nat × Obj) → Prop}
theorem n_doneI2 {v : Value} (hr : fn.results = #[.tmp t, .tmp t2]) (ht : t < n) (ht2 : t2 < n) (hv : .tuple #[f t, f t2] = v) :
   nC (retQ P fn n (fun v' w' => v' = v ∧ Bel w0.heap.size w0 w')) .ret f (Has w0 F L) := fun w hw => by
 refine ⟨.tuple #[f t, f t2], ?_, hv, hw.1⟩
 have e : (Fa n f).tmps[t]?.getD undef = f t := by simp [Fa, ht]
 have e2 : (Fa n f).tmps[t2]?.getD undef = f t2 := by simp [Fa, ht2]
 simp [results, hr, e, e2]
end
section
variable {P : Program} {f : Nat → Value} {C : World → Prop} {dst : Option Nat} {ty : TypeId} {pos : String} {af : Array Edge} {gd : Option (Nat × Bool)}
def ptrB (P : Program) (T : TypeId) : Bool := match P.underlying T with
 | some (.pointer _) => true
 | _ => false
theorem v_ptrNil {T t' : TypeId} {x y : Operand} {a : Option Addr} (hT : ptrB P T = true) (hx : ev f x = .pointer a) (hy : ev f y = .pointer none) : Val P f C ⟨dst, .binOp .eql T x y t', ty, pos, af, gd⟩ (.bool a.isNone) := by
 refine ⟨fun w _ => ?_⟩
 unfold ptrB at hT
 split at hT
 · rename_i e hu
   have hg : (eqGuard .eql T x y (.pointer a) (.pointer none)).run P w = .ok () w := by
     simp [eqGuard]
   have he : (Op.equal T (.pointer a) (.pointer none)).run P w = .ok a.isNone w := by
     unfold Op.equal
     show (Op.equalIn (_ + 1) T _ _).run P w = _
     unfold Op.equalIn
     simp only [Sem.run_bind]
     rw [run_underlying hu]
     cases a <;> simp
   simp [execOp, hx, hy, hg, binOp, he]
 · cases hT
end
def PaysO (pa : Option Addr) (pl pc : Nat) (ps : List PayS) (E : List (Nat × Obj)) : Prop :=
 ps.length = pl ∧ pl ≤ pc ∧ ((pl = 0 ∧ E = []) ∨ ∃ b t cs, pa = some ⟨b, 0, none⟩ ∧ E = [(b, .cells cs t (0, 0))] ∧ cs.size = pc * 6 ∧ CellsOf cs ps)
theorem PaysE.o {pa : Option Addr} {pl pc : Nat} {ps : List PayS} {E : List (Nat × Obj)} (h : PaysE pa pl pc ps E) : PaysO pa pl pc ps E := ⟨h.1, h.2.1, h.2.2.imp (fun e => ⟨e.2.1, e.2.2.2⟩) id⟩
theorem PaysO.known {F : Addr → Value → Prop} {pa : Option Addr} {pl pc : Nat} {ps : List PayS} {E : List (Nat × Obj)} (h : PaysO pa pl pc ps E) (hk : Knows F E) : PaysIn F pa pl ps := by
 refine ⟨h.1, ?_⟩
 rcases h.2.2 with ⟨h0, _⟩ | ⟨b, t, cs, rfl, rfl, h1, h2⟩
 · exact .inl h0
 · refine .inr ⟨b, 0, rfl, fun j p hj k v hv => ?_⟩
   rw [Nat.zero_add]
   exact hk b cs t (0, 0) (by simp) _ _ (h2 j p hj k v hv)
theorem PaysO.some {pa : Option Addr} {pl pc : Nat} {ps : List PayS} {E : List (Nat × Obj)} (h : PaysO pa pl pc ps E) (h0 : 0 < pl) : ∃ b t cs, pa = some ⟨b, 0, none⟩ ∧ E = [(b, .cells cs t (0, 0))] ∧ cs.size = pc * 6 ∧ CellsOf cs ps := by
 rcases h.2.2 with ⟨h1, _⟩ | h
 · omega
 · exact h
def IntsO (xs : List Int) (v : Value) (E : List (Nat × Obj)) : Prop :=
 ∃ a c, v = .slice a xs.length c ∧ xs.length ≤ c ∧ ((xs = [] ∧ E = []) ∨ ∃ b t cs, a = some ⟨b, 0, none⟩ ∧ E = [(b, .cells cs t (0, 0))] ∧ cs.size = c ∧ ∀ (j : Nat) (x : Int), xs[j]? = some x → cs[j]? = some (I x))
theorem ListE.ints {e : Nat} {v : Value} {xs : List Int} {E : List (Nat × Obj)} (h : ListE e 1 v xs.length (xs.map I) E) : IntsO xs v E := by
 rcases h.2 with ⟨rfl, h2, h3⟩ | ⟨g, cap, cur, rfl, rfl, h3, h4, h5, h6⟩
 · exact ⟨none, 0, by rw [h2], by omega, .inl ⟨List.length_eq_zero_iff.1 h2, h3⟩⟩
 · refine ⟨_, cap, rfl, h3, .inr ⟨g, e, cur, rfl, rfl, by omega, fun j x hj => ?_⟩⟩
   have hjl := (List.getElem?_eq_some_iff.1 hj).1
   have : (cur.toList.take (xs.length * 1))[j]? = some (I x) := by rw [h6]; simp [hj]
   rw [List.getElem?_take, if_pos (by omega)] at this
   simpa using this
theorem IntsO.known {F : Addr → Value → Prop} {xs : List Int} {a : Option Addr} {l c : Nat} {E : List (Nat × Obj)} (h : IntsO xs (.slice a l c) E) (hk : Knows F E) : IntsAt F a xs := by
 obtain ⟨a', c', hv, hc, h⟩ := h
 simp only [Value.slice.injEq] at hv
 obtain ⟨rfl, rfl, rfl⟩ := hv
 rcases h with ⟨h, _⟩ | ⟨b, t, cs, rfl, rfl, h1, h2⟩
 · exact .inl h
 · exact .inr ⟨b, 0, rfl, fun j x hj => by rw [Nat.zero_add]; exact hk b cs t (0, 0) (by simp) j _ (h2 j x hj)⟩
def Lies (w : World) (B : List (Nat × Obj)) : Prop := ∀ p ∈ B, w.heap[p.1]? = some p.2
theorem lies_of {w0 w : World} {F : Addr → Value → Prop} {B L : List (Nat × Obj)} (h : Has w0 F L w) (hs : ∀ p ∈ B, p ∈ L) : Lies w B := fun p hp => (h.2.2.1 p (hs p hp)).2
def BGood (s : BankS) : Prop := ∃ log lost, BOk s log lost
theorem bgood_new : BGood newB := ⟨_, _, bok_new⟩
theorem BGood.act {s : BankS} (h : BGood s) (a : ActS) : BGood (doM s a).1 := by
 obtain ⟨log, lost, h⟩ := h
 obtain ⟨log', lost', _, h'⟩ := h.act a
 exact ⟨log', lost', h'⟩
structure BankOk where
 Rep : (Addr → Value → Prop) → Nat → List (Nat × Obj) → BankS → Prop
 mono : ∀ {F F' : Addr → Value → Prop} {b : Nat} {B : List (Nat × Obj)} {s : BankS}, Rep F b B s → More F F' → Rep F' b B s
 new : ∀ w, GivesE Tryz.prog 20 [] w (fun v E => ∃ b, v = .pointer (some ⟨b, 0, none⟩) ∧ ∀ F, Rep F b E newB)
 act : ∀ (F : Addr → Value → Prop) (b : Nat) (B : List (Nat × Obj)) (s : BankS) (a : ActS), BGood s → Rep F b B s → GivesW Tryz.prog 21 [.pointer (some ⟨b, 0, none⟩), .agg a.cells] F B (fun F' v B' => ∃ v1 E B1, B' = E ++ B1 ∧ v = .agg (repC (doM s a).2.code (doM s a).2.n v1) ∧ IntsO (doM s a).2.done v1 E ∧ Rep F' b B1 (doM s a).1)
 house : ∀ (w : World) (b : Nat) (B : List (Nat × Obj)) (s : BankS), BGood s → Rep (At w) b B s → Lies w B → GivesE Tryz.prog 23 [.pointer (some ⟨b, 0, none⟩)] w (fun v E => ∃ h : H, v = .agg h.cells ∧ h.core = s.c ∧ PaysO h.pa h.pl h.pc s.ps E)
 book : ∀ (w : World) (b : Nat) (B : List (Nat × Obj)) (s : BankS), BGood s → Rep (At w) b B s → Lies w B → Gives Tryz.prog 22 [.pointer (some ⟨b, 0, none⟩)] w (.tuple #[S s.text, .bool (!s.down)])
section
variable {ops : Array Oper} {K : (Nat → Value) → World → Prop} {rest : List Oper} {f : Nat → Value} {d : Nat} {ty : TypeId} {pos : String} {af : Array Edge} {w0 : World} {F : Addr → Value → Prop} {B L : List (Nat × Obj)}
theorem s_do (bk : BankOk) {b : Nat} {s : BankS} {a : ActS} {x y : Operand} {ats : Array TypeId} (hg : BGood s) (hr : bk.Rep F b B s) (hx : ev f x = .pointer (some ⟨b, 0, none⟩)) (hy : ev f y = .agg a.cells)
   (kk : ∀ (F' : Addr → Value → Prop) (v1 : Value) (E B1 : List (Nat × Obj)), More F F' → IntsO (doM s a).2.done v1 E → bk.Rep F' b B1 (doM s a).1 → sC Tryz.prog ops K rest (upd f d (.agg (repC (doM s a).2.code (doM s a).2.n v1))) (Has w0 F' (E ++ (B1 ++ L)))) :
   sC Tryz.prog ops K (⟨some d, .call ⟨.value (.func 21), #[x, y], ats⟩, ty, pos, af, none⟩ :: rest) f (Has w0 F (B ++ L)) := by
 refine s_callW (xs := [x, y]) (R := _) (by kernel_rfl) (show GivesW _ _ ([x, y].map (ev f)) F B _ from (by simp only [List.map_cons, List.map_nil, hx, hy]; exact bk.act F b B s a hg hr)) ?_
 rintro F' v B' hm ⟨v1, E, B1, rfl, rfl, hi, hr'⟩
 refine s_weak (fun w hw => ?_) (kk F' v1 E B1 hm hi hr')
 rw [List.append_assoc] at hw; exact hw
end
end Go.Proofs.YtmkboljfbmlebaaGreat
namespace Go.Proofs.YtmkboljfbmlebaaGreat
open Go.RowKit
set_option linter.unusedSimpArgs false
set_option linter.unusedVariables false
def aPay : ActS := ⟨1, 0, 1, 0, 7⟩
def aFund : ActS := ⟨6, 0, 0, 0, 7⟩
def lC1 : H := { newM.core with next := newM.core.next + 1 }
def lP1 : List PayS := [] ++ [newPay newM.core aPay]
def lC2 : H := { lC1 with has := up1 lC1.has 0 (lC1.has 0 + 7) }
def lS2 : QS := QS.go ⟨lC2, lP1, []⟩ 0
theorem rest_sweep {s : QS} {b : Nat} (h : ∀ i : Nat, i < 4 → firstM s.c s.ps i = none) (hb : b < 4) : sweepFrom b 0 s = s := by
 have m : ∀ k : Nat, k % 4 < 4 := fun k => Nat.mod_lt _ (by omega)
 rw [sweep_idle (by omega) (drain_end (h b hb)) rfl, sweep_idle (by omega) (drain_end (h _ (m _))) rfl, sweep_idle (by omega) (drain_end (h _ (m _))) rfl, sweep_idle (by omega) (drain_end (h _ (m _))) rfl, sweep_end (by omega)]
theorem lSweep1 : sweepM lC1 lP1 = ⟨lC1, lP1, []⟩ := by
 unfold sweepM
 rw [show goodB lC1 lP1 = true by kernel_rfl, cond_true]
 refine rest_sweep (fun i hi => ?_) (by omega)
 have : i = 0 ∨ i = 1 ∨ i = 2 ∨ i = 3 := by omega
 rcases this with rfl | rfl | rfl | rfl <;> (show _ = _; kernel_rfl)
theorem lSweep2 : sweepM lC2 lP1 = lS2 := by
 unfold sweepM
 rw [show goodB lC2 lP1 = true by kernel_rfl, cond_true]
 have r : ∀ i : Nat, i < 4 → firstM lS2.c lS2.ps i = none := fun i hi => by
   have : i = 0 ∨ i = 1 ∨ i = 2 ∨ i = 3 := by omega
   rcases this with rfl | rfl | rfl | rfl <;> (show _ = _; kernel_rfl)
 have d : drain (0 : Nat) ⟨lC2, lP1, []⟩ = lS2 := by
   rw [drain_go (i := 0) (by kernel_rfl)]
   exact drain_end (r 0 (by omega))
 rw [sweep_busy (by omega) d (by decide)]
 exact rest_sweep r (by omega)
theorem lNext1 : nextM newM.core [] aPay = ⟨lC1, lP1, 0, 0, []⟩ := by
 have e : nextM newM.core [] aPay = sweepN lC1 lP1 0 [] := by kernel_rfl
 rw [e]
 unfold sweepN
 rw [lSweep1]
 rfl
theorem lNext2 : nextM lC1 lP1 aFund = ⟨lS2.c, lS2.ps, 0, 0, [0]⟩ := by
 have e : nextM lC1 lP1 aFund = sweepN lC2 lP1 0 [] := by kernel_rfl
 rw [e]
 unfold sweepN
 rw [lSweep2]
 rfl
def lB1 : BankS := ⟨lC1, lP1, frameOf aPay, false, -1, 1⟩
theorem lDo1 : doM newB aPay = (lB1, ⟨0, 0, []⟩) := by
 have h : nextM newB.c newB.ps aPay = ⟨lC1, lP1, 0, 0, []⟩ := lNext1
 unfold doM
 rw [h]
 show _ = _
 kernel_rfl
theorem lDo2 : (doM lB1 aFund).2 = ⟨0, 0, [0]⟩ ∧ (doM lB1 aFund).1.down = false ∧ (doM lB1 aFund).1.text = frameOf aPay ++ frameOf aFund ∧ (doM lB1 aFund).1.c = lS2.c := by
 have h : nextM lB1.c lB1.ps aFund = ⟨lS2.c, lS2.ps, 0, 0, [0]⟩ := lNext2
 have e : doM lB1 aFund = ({ lB1 with acts := 2, text := frameOf aPay ++ frameOf aFund, c := lS2.c, ps := lS2.ps }, ⟨0, 0, [0]⟩) := by
   unfold doM
   rw [h]
   show _ = _
   kernel_rfl
 rw [e]
 exact ⟨rfl, rfl, rfl, rfl⟩
theorem lHas : lS2.c.has 1 = 7 := by kernel_rfl
end Go.Proofs.YtmkboljfbmlebaaGreat
namespace Go.Proofs.YtmkboljfbmlebaaGreat
open Go.RowKit
set_option linter.unusedSimpArgs false
set_option linter.unusedVariables false
theorem alive_has {h : H} (e : h.core = (doM (doM newB aPay).1 aFund).1.c) : h.has 1 = 7 := by
 rw [lDo1] at e
 rw [lDo2.2.2.2] at e
 have : h.core.has 1 = 7 := by rw [e]; exact lHas
 exact this
theorem alive_text : Byt (doM (doM newB aPay).1 aFund).1.text ∧ ¬ (doM (doM newB aPay).1 aFund).1.text = [] := by
 rw [lDo1]
 rw [lDo2.2.2.1]
 exact ⟨Byt.append (frame_byte (by decide)) (frame_byte (by decide)), by simp [frameOf]⟩
theorem bgood_byt {s : BankS} (h : BGood s) : Byt s.text := by
 obtain ⟨log, lost, h⟩ := h
 cases hd : s.down with
 | false =>
   rw [(h.inv.up hd).1]
   exact bytes_byt h.inv.noted
 | true =>
   obtain ⟨a, m, _, hn, ht, _⟩ := h.inv.low hd
   rw [ht]
   exact Byt.append (bytes_byt h.inv.noted) (fun b hb => frame_byte hn b (List.mem_of_mem_take hb))
theorem bgood_inv {s : BankS} (h : BGood s) : Inv 200 s.c s.ps ∧ Rests s.c s.ps := by
 obtain ⟨log, lost, h⟩ := h
 exact h.house
end Go.Proofs.YtmkboljfbmlebaaGreat
namespace Go.Proofs.YtmkboljfbmlebaaGreat
open Go.RowKit
set_option linter.unusedSimpArgs false
set_option linter.unusedVariables false
theorem Lies.below {w w' : World} {B : List (Nat × Obj)} (h : Lies w B) (hb : Bel w.heap.size w w') : Lies w' B := fun p hp => by
 have h1 := h p hp
 rw [hb.block p.1 (Array.getElem?_eq_some_iff.1 h1).1]
 exact h1
def Alike (s t : BankS) : Prop := s.c = t.c ∧ s.ps = t.ps ∧ s.text = t.text ∧ s.down = t.down
theorem Alike.refl (s : BankS) : Alike s s := ⟨rfl, rfl, rfl, rfl⟩
end Go.Proofs.YtmkboljfbmlebaaGreat
namespace Go.Proofs.YtmkboljfbmlebaaGreat
open Go.RowKit
set_option linter.unusedSimpArgs false
set_option linter.unusedVariables false
structure Like (t s : BankS) (n : Nat) : Prop where
 c : t.c = s.c
 ps : t.ps = s.ps
 up : t.down = false
 acts : t.acts ≤ s.acts + n
theorem Like.trans {t s r : BankS} {n m : Nat} (a : Like t s n) (b : Like s r m) : Like t r (n + m) := ⟨a.c.trans b.c, a.ps.trans b.ps, a.up, by have := a.acts; have := b.acts; omega⟩
theorem Like.mono {t s : BankS} {n m : Nat} (a : Like t s n) (h : n ≤ m) : Like t s m := ⟨a.c, a.ps, a.up, by have := a.acts; omega⟩
end Go.Proofs.YtmkboljfbmlebaaGreat
namespace Go.Proofs.YtmkboljfbmlebaaGreat
open Go.RowKit
set_option linter.unusedSimpArgs false
set_option linter.unusedVariables false
def lostL : Option (ActS × Nat) → List ActS
 | none => []
 | some (x, _) => [x]
def Cr (s : BankS) (log lo : List ActS) : Prop := ∃ lost, BOk s log lost ∧ lo = lostL lost
theorem Cr.len {s : BankS} {log lo : List ActS} (h : Cr s log lo) : log.length ≤ 200 ∧ lo.length ≤ 1 := by
 obtain ⟨lost, hb, rfl⟩ := h
 have h1 := hb.count
 have h2 := hb.acts
 refine ⟨by omega, ?_⟩
 cases lost with
 | none => simp [lostL]
 | some p => simp [lostL]
theorem Cr.lost {s : BankS} {log lo : List ActS} (h : Cr s log lo) : (s.down = false → lo = []) ∧ (s.down = true → ∃ x, lo = [x]) := by
 obtain ⟨lost, hb, rfl⟩ := h
 refine ⟨fun hd => by rw [(hb.inv.up hd).2]; rfl, fun hd => ?_⟩
 obtain ⟨a, m, e, _⟩ := hb.inv.low hd
 rw [e]; exact ⟨a, rfl⟩
section
variable {P : Program} {ops : Array Oper} {K : (Nat → Value) → World → Prop} {rest : List Oper} {f : Nat → Value} {d : Nat} {ty : TypeId} {pos : String} {af : Array Edge} {w0 : World} {F : Addr → Value → Prop} {E L : List (Nat × Obj)}
end
end Go.Proofs.YtmkboljfbmlebaaGreat
namespace Go.Proofs.YtmkboljfbmlebaaGreat
open Go.RowKit
set_option linter.unusedSimpArgs false
set_option linter.unusedVariables false
section
variable {P : Program} {ops : Array Oper} {K : (Nat → Value) → World → Prop} {rest : List Oper} {f : Nat → Value} {d : Nat} {ty : TypeId} {pos : String} {af : Array Edge} {w0 : World} {F : Addr → Value → Prop} {E L : List (Nat × Obj)}
end
theorem ActsAt.take {F : Addr → Value → Prop} {a : Option Addr} {xs : List ActS} (h : ActsAt F a xs) (k : Nat) : ActsAt F a (xs.take k) := by
 rcases h with rfl | ⟨b, o, h1, h2⟩
 · exact .inl (by simp)
 · refine .inr ⟨b, o, h1, fun j x hj => h2 j x ?_⟩
   rw [List.getElem?_take] at hj
   split at hj
   · exact hj
   · cases hj
theorem sameRB_self (c n : Int) (xs : List Int) : sameRB c n xs c n xs = true := by simp [sameRB]
def RepsAt (F : Addr → Value → Prop) (a : Option Addr) (rs : List RepS) : Prop := rs = [] ∨ ∃ b o, a = some ⟨b, o, none⟩ ∧ ∀ (j : Nat) (r : RepS), rs[j]? = some r → ∃ a1 c1, IntsAt F a1 r.done ∧ ∀ (k : Nat) (v : Value), (repC r.code r.n (.slice a1 r.done.length c1))[k]? = some v → F ⟨b, o + j * 3 + k, none⟩ v
theorem RepsAt.mono {F F' : Addr → Value → Prop} {a : Option Addr} {rs : List RepS} (h : RepsAt F a rs) (hm : More F F') : RepsAt F' a rs := by
 rcases h with h | ⟨b, o, h1, h2⟩
 · exact .inl h
 · refine .inr ⟨b, o, h1, fun j r hr => ?_⟩
   obtain ⟨a1, c1, h3, h4⟩ := h2 j r hr
   exact ⟨a1, c1, h3.mono hm, fun k v hv => hm _ _ (h4 k v hv)⟩
theorem RepsAt.get {F : Addr → Value → Prop} {a : Option Addr} {rs : List RepS} (h : RepsAt F a rs) {j : Nat} (hj : j < rs.length) : ∃ b o r a1 c1, a = some ⟨b, o, none⟩ ∧ rs[j]? = some r ∧ IntsAt F a1 r.done ∧ ∀ (k : Nat) (v : Value), (repC r.code r.n (.slice a1 r.done.length c1))[k]? = some v → F ⟨b, o + j * 3 + k, none⟩ v := by
 rcases h with rfl | ⟨b, o, h1, h2⟩
 · simp at hj
 · obtain ⟨a1, c1, h3, h4⟩ := h2 j rs[j] (by simp [hj])
   exact ⟨b, o, rs[j], a1, c1, h1, by simp [hj], h3, h4⟩
end Go.Proofs.YtmkboljfbmlebaaGreat
