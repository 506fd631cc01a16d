/- Maps from numbers to true that the call itself makes; slices of payments that came in. No condition. -/
import Derived.Test.YtmkboljfbmlebaaK4
namespace Go.Proofs.Ytmkboljfbmlebaa
open Go.RowKit
set_option linter.unusedSimpArgs false
set_option linter.unusedVariables false

/-! a set of numbers, in the order in which they came -/
def setE (ks : List Int) (n : Nat) : List MapEntry := match ks with
  | [] => []
  | k :: r => { key := I k, val := .bool true, born := n } :: setE r (n + 1)
def setO (ks : List Int) : Obj := .map (setE ks 0).toArray ks.length
theorem setE_snoc (k : Int) : ∀ (ks : List Int) (n : Nat), setE (ks ++ [k]) n = setE ks n ++ [{ key := I k, val := .bool true, born := n + ks.length }]
  | [], n => by simp [setE]
  | j :: r, n => by simp [setE, setE_snoc k r (n + 1)]; omega
theorem setO_snoc (ks : List Int) (k : Int) : Obj.map ((setE ks 0).toArray.push { key := I k, val := .bool true, born := ks.length }) (ks.length + 1) = setO (ks ++ [k]) := by
  simp [setO, setE_snoc]
theorem setE_find (x : Int) : ∀ (ks : List Int) (n i : Nat), (x ∉ ks → Instr.findNow (.int .i64) (I x) (setE ks n) i = some none) ∧ (x ∈ ks → ∃ j, Instr.findNow (.int .i64) (I x) (setE ks n) i = some (some (j, .bool true)))
  | [], n, i => by simp [setE, Instr.findNow]
  | k :: r, n, i => by
    have ih := setE_find x r (n + 1) (i + 1)
    by_cases e : x = k
    · subst e
      refine ⟨fun h => absurd List.mem_cons_self h, fun _ => ⟨i, ?_⟩⟩
      simp [setE, Instr.findNow, Instr.sameNow]
    · have e' : (x == k) = false := by simpa using e
      refine ⟨fun h => ?_, fun h => ?_⟩
      · simp only [setE, Instr.findNow, Instr.sameNow, if_true, e']
        exact ih.1 (fun hm => h (List.mem_cons_of_mem _ hm))
      · rcases List.mem_cons.1 h with h | h
        · exact absurd h e
        · simp only [setE, Instr.findNow, Instr.sameNow, if_true, e']
          exact ih.2 h

def setB (P : Program) (T : TypeId) : Bool := match P.underlying T with
  | some (.map k e) => (match P.underlying k with | some (.int .i64) => true | _ => false) && (match P.info? e with | some i => (match i.zero with | some (.bool false) => true | _ => false) | none => false)
  | _ => false
theorem setB_spec {P : Program} {T : TypeId} (h : setB P T = true) : ∃ k e, P.underlying T = some (.map k e) ∧ P.underlying k = some (.int .i64) ∧ ∀ w, (zeroValue e).run P w = .ok (.bool false) w := by
  unfold setB at h
  split at h
  · rename_i k e hu
    simp only [Bool.and_eq_true] at h
    obtain ⟨h1, h2⟩ := h
    refine ⟨k, e, hu, ?_, fun w => ?_⟩
    · split at h1
      · assumption
      · cases h1
    · split at h2
      · rename_i i hi
        split at h2
        · rename_i hz
          simp [zeroValue, typeInfo, hi, hz]
        · cases h2
      · cases h2
  · cases h

section
variable {P : Program} {ops : Array Oper} {K : (Nat → Value) → World → Prop} {rest : List Oper} {f : Nat → Value} {C : World → Prop}
  {d : Nat} {ty : TypeId} {pos : String} {af : Array Edge} {w0 : World} {F : Addr → Value → Prop} {L : List (Nat × Obj)} {dst : Option Nat} {gd : Option (Nat × Bool)}

theorem s_makeSet {T : TypeId} (kk : ∀ b, sC P ops K rest (upd f d (.map (some b))) (Has w0 F ((b, setO []) :: L))) :
    sC P ops K (⟨some d, .makeMap T none, ty, pos, af, none⟩ :: rest) f (Has w0 F L) := by
  intro w hw
  unfold sw
  rw [if_pos wanted_free]
  unfold opk
  have : (execOp (ev f) ⟨some d, .makeMap T none, ty, pos, af, none⟩).run P w = .ok (.value (.map (some w.heap.size))) (w.alloc (setO [])) := by
    simp [execOp, Instr.makeMap, newObj, Sem.run, setO, setE]
  rw [this]
  exact kk _ _ (hw.alloc _)
theorem v_setHas {T : TypeId} {x y : Operand} {b : Nat} {ks : List Int} {n : Int} (hT : setB P T = true) (hx : ev f x = .map (some b)) (hy : ev f y = .int .i64 n) (hl : Look L b (setO ks)) :
    Val P f (Has w0 F L) ⟨dst, .lookup T x y false, ty, pos, af, gd⟩ (.bool (decide (n ∈ ks))) :=
  ⟨fun w hw => by
    obtain ⟨k, e, h1, h2, h3⟩ := setB_spec hT
    have ho := hw.look hl
    unfold setO at ho
    have hg : (getObj b).run P w = .ok (.map (setE ks 0).toArray ks.length) w := by simp [getObj, Sem.run, ho]
    have hck : ∀ em, (Instr.checkKey em 10000 k (I n)).run P w = .ok () w := by intro em; unfold Instr.checkKey; simp [underlying, h2]
    by_cases hm : n ∈ ks
    · obtain ⟨j, hj⟩ := (setE_find n ks 0 0).2 hm
      have hk : (Instr.findKey k (I n) (setE ks 0)).run P w = .ok (some (j, .bool true)) w := by simp [Instr.findKey, underlying, h2, hj]
      simp [execOp, hx, hy, Instr.lookup, underlying, h1, hg, hck, hk, hm]
    · have hj := (setE_find n ks 0 0).1 hm
      have hk : (Instr.findKey k (I n) (setE ks 0)).run P w = .ok none w := by simp [Instr.findKey, underlying, h2, hj]
      simp [execOp, hx, hy, Instr.lookup, underlying, h1, hg, hck, hk, hm, h3]⟩
theorem s_setAdd {T : TypeId} {x y z : Operand} {b : Nat} {ks : List Int} {n : Int} {L' : List (Nat × Obj)} (hT : setB P T = true) (hx : ev f x = .map (some b)) (hy : ev f y = .int .i64 n) (hz : ev f z = .bool true)
    (ht : Turn L b (setO ks) (setO (ks ++ [n])) L') (hn : n ∉ ks) (kk : sC P ops K rest f (Has w0 F L')) :
    sC P ops K (⟨none, .mapUpdate T x y z, ty, pos, af, none⟩ :: rest) f (Has w0 F L) := by
  intro w hw
  unfold sw
  rw [if_pos wanted_free]
  unfold opk
  obtain ⟨k, e, h1, h2, h3⟩ := setB_spec hT
  have ho := hw.look ht.look
  have ho' := ho
  unfold setO at ho'
  have hg : (getObj b).run P w = .ok (.map (setE ks 0).toArray ks.length) w := by simp [getObj, Sem.run, ho']
  have hck : ∀ em, (Instr.checkKey em 10000 k (I n)).run P w = .ok () w := by intro em; unfold Instr.checkKey; simp [underlying, h2]
  have hj := (setE_find n ks 0 0).1 hn
  have hk : (Instr.findKey k (I n) (setE ks 0)).run P w = .ok none w := by simp [Instr.findKey, underlying, h2, hj]
  have hs : (setObj b (setO (ks ++ [n]))).run P w = .ok () { w with heap := w.heap.setIfInBounds b (setO (ks ++ [n])) } := by
    simp [setObj, Sem.run, ho']
  have : (execOp (ev f) ⟨none, .mapUpdate T x y z, ty, pos, af, none⟩).run P w = .ok .skip { w with heap := w.heap.setIfInBounds b (setO (ks ++ [n])) } := by
    rw [← setO_snoc] at hs
    rw [← setO_snoc]
    simp only [List.push_toArray] at hs ⊢
    simp [execOp, hx, hy, hz, Instr.mapUpdate, underlying, h1, hg, hck, hk, hs]
  rw [this]
  have hlt := (Array.getElem?_eq_some_iff.1 ho).1
  refine kk _ (hw.turn ht rfl rfl rfl (by simp) (by simp [hlt]) (fun j hj => ?_))
  have hj' : ¬ b = j := fun e => hj e.symm
  simp [hj']
end

/-! payments in memory that is known -/
def PaysIn (F : Addr → Value → Prop) (pa : Option Addr) (pl : Nat) (ps : List PayS) : Prop :=
  ps.length = pl ∧ (pl = 0 ∨ ∃ b o, pa = some ⟨b, o, none⟩ ∧ ∀ (j : Nat) (p : PayS), ps[j]? = some p → ∀ (k : Nat) (v : Value), p.cells[k]? = some v → F ⟨b, o + j * 6 + k, none⟩ v)
theorem PaysIn.some {F : Addr → Value → Prop} {pa : Option Addr} {pl : Nat} {ps : List PayS} (h : PaysIn F pa pl ps) {k : Nat} (hk : k < pl) :
    ∃ b o, pa = some ⟨b, o, none⟩ ∧ ∀ (j : Nat) (p : PayS), ps[j]? = some p → ∀ (k : Nat) (v : Value), p.cells[k]? = some v → F ⟨b, o + j * 6 + k, none⟩ v := by
  rcases h.2 with h | h
  · omega
  · exact h
theorem PaysIn.get {F : Addr → Value → Prop} {pa : Option Addr} {pl : Nat} {ps : List PayS} (h : PaysIn F pa pl ps) {k : Nat} (hk : k < pl) : ∃ p, ps[k]? = Option.some p ∧ ps.drop k = p :: ps.drop (k + 1) ∧ ps.take (k + 1) = ps.take k ++ [p] := by
  have hk' : k < ps.length := by rw [h.1]; exact hk
  exact ⟨ps[k], by simp [hk'], List.drop_eq_getElem_cons hk', by rw [List.take_succ_eq_append_getElem hk']⟩
theorem PaysIn.mono {F F' : Addr → Value → Prop} {pa : Option Addr} {pl : Nat} {ps : List PayS} (h : PaysIn F pa pl ps) (hm : More F F') : PaysIn F' pa pl ps := by
  refine ⟨h.1, ?_⟩
  rcases h.2 with h' | ⟨b, o, h1, h2⟩
  · exact .inl h'
  · exact .inr ⟨b, o, h1, fun j p hj k v hv => hm _ _ (h2 j p hj k v hv)⟩
theorem PaysIn.at {w0 w : World} {F : Addr → Value → Prop} {L : List (Nat × Obj)} {pa : Option Addr} {pl : Nat} {ps : List PayS} (h : PaysIn F pa pl ps) (hw : Has w0 F L w) : PaysIn (At w) pa pl ps := h.mono hw.at
end Go.Proofs.Ytmkboljfbmlebaa
