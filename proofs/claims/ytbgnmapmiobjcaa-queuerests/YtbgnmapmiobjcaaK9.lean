/- Lists that the call itself grows, and calls that hand back memory of their own. No condition. -/
import Derived.Test.YtbgnmapmiobjcaaK8
namespace Go.Proofs.Ytbgnmapmiobjcaa
open Go.RowKit
set_option linter.unusedSimpArgs false
set_option linter.unusedVariables false

/-! own blocks in another order, or fewer of them -/
theorem Has.perm {w0 w : World} {F : Addr → Value → Prop} {L L' : List (Nat × Obj)} (h : Has w0 F L w) (hp : L.Perm L') : Has w0 F L' w :=
  ⟨h.1, (hp.map _).nodup_iff.1 h.2.1, fun p hq => h.2.2.1 p (hp.mem_iff.2 hq), fun a v hF => ⟨(h.2.2.2 a v hF).1, fun hm => (h.2.2.2 a v hF).2 ((hp.map _).mem_iff.2 hm)⟩⟩
theorem Has.sub {w0 w : World} {F : Addr → Value → Prop} {L L' : List (Nat × Obj)} (h : Has w0 F L w) (hs : L'.Sublist L) : Has w0 F L' w :=
  ⟨h.1, (hs.map _).nodup h.2.1, fun p hq => h.2.2.1 p (hs.subset hq), fun a v hF => ⟨(h.2.2.2 a v hF).1, fun hm => (h.2.2.2 a v hF).2 ((hs.map _).subset hm)⟩⟩
theorem Has.right {w0 w : World} {F : Addr → Value → Prop} {E L : List (Nat × Obj)} (h : Has w0 F (E ++ L) w) : Has w0 F L w := h.sub (List.sublist_append_right _ _)
theorem Look.app {E L : List (Nat × Obj)} {b : Nat} {o : Obj} (h : Look L b o) : Look (E ++ L) b o := by
  induction E with
  | nil => exact h
  | cons p r ih => exact .there ih
theorem Turn.app {E L L' : List (Nat × Obj)} {b : Nat} {o o' : Obj} (h : Turn L b o o' L') : Turn (E ++ L) b o o' (E ++ L') := by
  induction E with
  | nil => exact h
  | cons p r ih => exact .there ih
theorem look_of_mem {L : List (Nat × Obj)} {b : Nat} {o : Obj} (h : (b, o) ∈ L) : Look L b o := by
  induction L with
  | nil => cases h
  | cons p r ih =>
    rcases List.mem_cons.1 h with rfl | h
    · exact .here
    · exact .there (ih h)
theorem Look.left {E L : List (Nat × Obj)} {b : Nat} {o : Obj} (h : Look E b o) : Look (E ++ L) b o := look_of_mem (List.mem_append_left _ h.mem)
/-- the blocks of a call that was called are new to its caller -/
def NewBlocks (w w' : World) (E : List (Nat × Obj)) : Prop := (E.map (·.1)).Nodup ∧ ∀ p ∈ E, w.heap.size ≤ p.1 ∧ w'.heap[p.1]? = some p.2
theorem Has.gain {w0 w w' : World} {F : Addr → Value → Prop} {E L : List (Nat × Obj)} (h : Has w0 F L w) (hb : Bel w.heap.size w w') (hE : NewBlocks w w' E) : Has w0 F (E ++ L) w' := by
  have h' := h.below hb
  refine ⟨h'.1, ?_, ?_, ?_⟩
  · rw [List.map_append, List.nodup_append]
    refine ⟨hE.1, h.2.1, fun a ha b hb' e => ?_⟩
    subst e
    obtain ⟨p, hp, rfl⟩ := List.mem_map.1 ha
    obtain ⟨q, hq, e⟩ := List.mem_map.1 hb'
    have h1 := (hE.2 p hp).1
    have h2 := (Array.getElem?_eq_some_iff.1 (h.2.2.1 q hq).2).1
    omega
  · intro p hp
    rcases List.mem_append.1 hp with hp | hp
    · exact ⟨Nat.le_trans h.1.size (hE.2 p hp).1, (hE.2 p hp).2⟩
    · exact h'.2.2.1 p hp
  · intro a v hF
    refine ⟨(h'.2.2.2 a v hF).1, ?_⟩
    rw [List.map_append, List.mem_append]
    rintro (hm | hm)
    · obtain ⟨p, hp, e⟩ := List.mem_map.1 hm
      have h1 := (hE.2 p hp).1
      have h2 := cell_lt (h.2.2.2 a v hF).1
      omega
    · exact (h'.2.2.2 a v hF).2 hm
/-- what the blocks hold is known -/
def Knows (F : Addr → Value → Prop) (E : List (Nat × Obj)) : Prop := ∀ b cs t fr, (b, Obj.cells cs t fr) ∈ E → ∀ (j : Nat) (v : Value), cs[j]? = some v → F ⟨b, j, none⟩ v
theorem Has.forget {w0 w : World} {F : Addr → Value → Prop} {E L : List (Nat × Obj)} (h : Has w0 F (E ++ L) w) : Has w0 (Out L w) L w ∧ More F (Out L w) ∧ Knows (Out L w) E := by
  refine ⟨⟨h.1, h.right.2.1, h.right.2.2.1, fun a v hF => hF⟩, fun a v hF => h.right.2.2.2 a v hF, fun b cs t fr hm j v hv => ⟨?_, ?_⟩⟩
  · rw [cell_of_row w b j cs t fr (h.2.2.1 _ (List.mem_append_left _ hm)).2]; exact hv
  · have hn := h.2.1
    rw [List.map_append, List.nodup_append] at hn
    exact fun hm' => hn.2.2 b (List.mem_map_of_mem (f := (·.1)) hm) b hm' rfl

/-! a list of rows of m cells, in a block of the call's own or in none -/
def ListE (e m : Nat) (v : Value) (n : Nat) (xs : List Value) (E : List (Nat × Obj)) : Prop :=
  xs.length = n * m ∧ ((v = .slice none 0 0 ∧ n = 0 ∧ E = []) ∨
    ∃ g cap cur, v = .slice (some ⟨g, 0, none⟩) n cap ∧ E = [(g, .cells cur e (0, 0))] ∧ n ≤ cap ∧ cap ≤ maxLen ∧ cur.size = cap * m ∧ cur.toList.take (n * m) = xs)
theorem listE_nil (e m : Nat) : ListE e m (.slice none 0 0) 0 [] [] := ⟨by simp, .inl ⟨rfl, rfl, rfl⟩⟩
theorem ListE.shape {e m n : Nat} {v : Value} {xs : List Value} {E : List (Nat × Obj)} (h : ListE e m v n xs E) : ∃ a c, v = .slice a n c := by
  rcases h.2 with ⟨rfl, rfl, _⟩ | ⟨g, cap, cur, rfl, _⟩
  · exact ⟨none, 0, rfl⟩
  · exact ⟨_, _, rfl⟩

def rowB (P : Program) (T e m by_ : Nat) : Bool := match P.underlying T with
  | some (.slice e') => Nat.beq e' e && (match P.info? e with | some i => Nat.beq i.size m && Nat.beq i.bytes by_ && (match i.zero with | some z => Nat.beq z.cells.size m | _ => false) | none => false)
  | _ => false
theorem rowB_spec {P : Program} {T e m by_ : Nat} (h : rowB P T e m by_ = true) : ∃ i z, P.underlying T = some (.slice e) ∧ P.info? e = some i ∧ i.size = m ∧ i.bytes = by_ ∧ i.zero = some z ∧ z.cells.size = m := by
  unfold rowB at h
  split at h
  · rename_i e' hu
    simp only [Bool.and_eq_true] at h
    obtain ⟨h1, h2⟩ := h
    have := Nat.eq_of_beq_eq_true h1
    subst this
    split at h2
    · rename_i i hi
      simp only [Bool.and_eq_true] at h2
      obtain ⟨⟨h3, h4⟩, h5⟩ := h2
      split at h5
      · rename_i z hz
        exact ⟨i, z, hu, hi, Nat.eq_of_beq_eq_true h3, Nat.eq_of_beq_eq_true h4, hz, Nat.eq_of_beq_eq_true h5⟩
      · cases h5
    · cases h2
  · cases h

section
variable {P : Program} {ops : Array Oper} {K : (Nat → Value) → World → Prop} {rest : List Oper} {f : Nat → Value} {d : Nat} {ty : TypeId} {pos : String} {af : Array Edge} {w0 : World} {F : Addr → Value → Prop} {E L : List (Nat × Obj)}

/-- a list of one row -/
theorem s_build1 {T e m by_ : Nat} {x : Operand} {v : Value} (hT : rowB P T e m by_ = true) (hm : (Nat.ble 1 m && Nat.ble m 1000) = true) (hx : ev f x = v) (hs : v.cells.size = m)
    (hz : ∀ z : Array Value, z.size = m → Instr.fill (fun i => some (i * m, m)) ((Array.range (1 * m)).map (z[· % z.size]!)) [(0, v)] = some v.cells)
    (kk : ∀ b, sC P ops K rest (upd f d (.slice (some ⟨b, 0, none⟩) 1 1)) (Has w0 F ((b, .cells v.cells e) :: L))) :
    sC P ops K (⟨some d, .buildSlice T 1 #[(0, x)], ty, pos, af, none⟩ :: rest) f (Has w0 F L) := by
  intro w hw
  obtain ⟨i, z, hu, hi, h1, h2, h3, h4⟩ := rowB_spec hT
  simp only [Bool.and_eq_true, Nat.ble_eq] at hm
  have : (Instr.buildSlice T 1 #[(0, v)]).run P w = .ok (.slice (some ⟨w.heap.size, 0, none⟩) 1 1) (w.alloc (.cells v.cells e)) := by
    have hsmall : ¬ (2 ^ 24 < 1 * i.size) := by rw [h1]; omega
    have hpos : ¬ 1 * i.size = 0 := by rw [h1]; omega
    simp [Instr.buildSlice, run_underlying hu, sizeOf, typeInfo, zeroValue, hi, h3, newRow]
    rw [h1]
    have hz' := hz z.cells h4
    rw [Nat.one_mul] at hz'
    rw [if_neg (show ¬ 16777216 < m by omega), if_neg (show ¬ m = 0 by omega)]
    simp [hz']
  unfold sw
  rw [if_pos wanted_free]
  unfold opk
  have hr : (execOp (ev f) ⟨some d, .buildSlice T 1 #[(0, x)], ty, pos, af, none⟩).run P w = .ok (.value (.slice (some ⟨w.heap.size, 0, none⟩) 1 1)) (w.alloc (.cells v.cells e)) := by
    simp [execOp, hx, this]
  rw [hr]
  exact kk _ _ (hw.alloc _)
theorem fill_scalar {v : Value} (h : v.cells = #[v]) (z : Array Value) (hz : z.size = 1) : Instr.fill (fun i => some (i * 1, 1)) ((Array.range (1 * 1)).map (z[· % z.size]!)) [(0, v)] = some v.cells := by
  have : (Array.range (1 * 1)).map (z[· % z.size]!) = #[z[0]!] := by
    have : Array.range (1 * 1) = #[0] := rfl
    rw [this]; simp [hz]
  rw [this]
  simp [Instr.fill, h]

theorem all_scalar {v : Value} (h : v.cells = #[v]) (h1 : v.oneCell' = true) : v.cells.all (·.oneCell') = true := by rw [h]; simp [h1]
/-- rows that stand in memory are set behind a list of the call's own -/
theorem run_appendE {w : World} {T e m by_ n mm c : Nat} {ty : TypeId} {v : Value} {xs news : List Value} {b o : Nat} (hT : rowB P T e m by_ = true) (hm : 0 < m) (hE : ListE e m v n xs E) (hw : Has w0 F (E ++ L) w)
    (hl : news.length = mm * m) (hnews : ∀ j u, news[j]? = some u → w.cell? ⟨b, o + j, none⟩ = some u) (h1 : ∀ u ∈ news, u.oneCell' = true) (hpos : 0 < mm) (hbytes : (n + mm) * by_ ≤ 140737488355328) (hbb : 0 < by_) :
    ∃ v' E' w', (Builtin.append_ #[T, T] ty #[v, .slice (some ⟨b, o, none⟩) mm c]).run P w = .ok v' w' ∧ ListE e m v' (n + mm) (xs ++ news) E' ∧ Has w0 F (E' ++ L) w' := by
  obtain ⟨i, z, hu, hi, hs, hby, hz, hzs⟩ := rowB_spec hT
  subst hs
  subst hby
  have hle : n + mm ≤ 140737488355328 := Nat.le_trans (Nat.le_mul_of_pos_right _ hbb) hbytes
  have h63 : n + mm ≤ maxLen := by simp only [maxLen]; omega
  have hnews' : ∀ j u, news[j]? = some u → w.cell? ((⟨b, o, none⟩ : Addr).add j) = some u := fun j u hu => by rw [add_off]; exact hnews j u hu
  have hlen : (xs ++ news).length = (n + mm) * i.size := by rw [List.length_append, hE.1, hl, Nat.add_mul]
  have new : ∀ old, old < n + mm → ListE e i.size (.slice (some ⟨w.heap.size, 0, none⟩) (n + mm) (grownCap w (n + mm) old e)) (n + mm) (xs ++ news)
      [(w.heap.size, .cells (xs.toArray ++ news.toArray ++ Builtin.zeroCells z.cells (grownCap w (n + mm) old e - (n + mm))) e)] := by
    intro old ho
    have hge := grownCap_ge w (n + mm) old e
    have hcm : grownCap w (n + mm) old e ≤ maxLen := grownCap_le_maxLen w (n + mm) old e h63
    refine ⟨hlen, .inr ⟨_, _, _, rfl, rfl, hge, hcm, ?_, ?_⟩⟩
    · simp only [Array.size_append, List.size_toArray, size_zeroCells, hzs, hE.1, hl, ← Nat.add_mul]
      congr 1
      omega
    · simp only [Array.toList_append, List.append_assoc]
      rw [← List.append_assoc, ← hlen]
      exact List.take_left
  have hnewW : ∀ o, Has w0 F ((w.heap.size, o) :: L) (w.drew.alloc o) := fun o => hw.right.drew.alloc o
  rcases hE.2 with ⟨rfl, rfl, rfl⟩ | ⟨g, cap, cur, rfl, rfl, hnc, hcm, hcs, htake⟩
  · have hx : xs = [] := List.eq_nil_of_length_eq_zero (by simpa using hE.1)
    subst hx
    have hr := run_append_nil (P := P) w T ty e i z hu hi hz ⟨b, o, none⟩ mm c news hl hnews' hpos (by omega) (by simp only [Nat.zero_add] at hbytes; omega)
    have hn := new 0 (by omega)
    simp only [Nat.zero_add, List.nil_append, Array.empty_append] at hn hr ⊢
    exact ⟨_, _, _, hr, hn, hnewW _⟩
  · have hg : w.heap[g]? = some (.cells cur e (0, 0)) := hw.look .here
    by_cases hroom : n + mm ≤ cap
    · have hfit : n * i.size + news.length ≤ cur.size := by rw [hl, hcs, ← Nat.add_mul]; exact Nat.mul_le_mul_right _ hroom
      have hr := run_append_room (P := P) w T ty e i hu hi g n cap cur hg ⟨b, o, none⟩ mm c news hl hnews' h1 hroom hfit
      refine ⟨_, [(g, .cells (cur.toList.take (n * i.size) ++ news ++ cur.toList.drop (n * i.size + news.length)).toArray e (0, 0))], _, hr, ⟨hlen, .inr ⟨g, cap, _, rfl, rfl, hroom, hcm, ?_, ?_⟩⟩, ?_⟩
      · simp only [List.size_toArray, List.length_append, List.length_take, List.length_drop, Array.length_toList]
        omega
      · rw [htake, ← hlen]
        exact List.take_left
      · exact hw.turn (L' := _ :: L) .here rfl rfl rfl (by simp) (setRow_heap w g cur _ e _ hg) (fun k hk => setRow_other w g k _ hk)
    · have holds : ∀ j u, xs[j]? = some u → w.cell? ((⟨g, 0, none⟩ : Addr).add j) = some u := fun j u hu => by
        rw [add_off, Nat.zero_add, cell_of_row w g j cur e (0, 0) hg]
        rw [← htake, List.getElem?_take] at hu
        split at hu
        · simpa using hu
        · cases hu
      have hr := run_append_grow (P := P) w T ty e i z hu hi hz ⟨g, 0, none⟩ n cap xs hE.1 holds ⟨b, o, none⟩ mm c news hl hnews' (by omega) (by omega) (growslice_fits (by omega) hbytes)
      exact ⟨_, _, _, hr, new cap (by omega), hnewW _⟩

/-- the row just built is set behind the list, and its own block is forgotten -/
theorem s_push {T e m by_ n : Nat} {ats : Array TypeId} {x y : Operand} {v : Value} {xs : List Value} {b : Nat} {cs : Array Value} (hT : rowB P T e m by_ = true) (hm : Nat.ble 1 m = true) (hbb : Nat.ble 1 by_ = true) (hat : ats = #[T, T])
    (hx : ev f x = v) (hy : ev f y = .slice (some ⟨b, 0, none⟩) 1 1) (hE : ListE e m v n xs E) (hs : cs.size = m) (h1 : cs.all (·.oneCell') = true) (hbytes : (n + 1) * by_ ≤ 140737488355328)
    (kk : ∀ v' E', ListE e m v' (n + 1) (xs ++ cs.toList) E' → sC P ops K rest (upd f d v') (Has w0 F (E' ++ L))) :
    sC P ops K (⟨some d, .call ⟨.builtin .append, #[x, y], ats⟩, ty, pos, af, none⟩ :: rest) f (Has w0 F ((b, .cells cs e) :: (E ++ L))) := by
  intro w hw
  subst hat
  unfold sw
  rw [if_pos wanted_free]
  unfold opk
  obtain ⟨v', E', w', hr, hE', hw'⟩ := run_appendE (P := P) (w0 := w0) (F := F) (L := L) (c := 1) (ty := ty) (b := b) (o := 0) (mm := 1) (news := cs.toList) hT (Nat.le_of_ble_eq_true hm) hE hw.tail (by simp [hs]) (fun j u hj => by
    rw [Nat.zero_add, cell_has hw .here]; simpa using hj) (fun u hu => by rw [Array.all_eq_true_iff_forall_mem] at h1; exact h1 u (by simpa using hu)) (by omega) hbytes (Nat.le_of_ble_eq_true hbb)
  have : (execOp (ev f) ⟨some d, .call ⟨.builtin .append, #[x, y], #[T, T]⟩, ty, pos, af, none⟩).run P w = .ok (.value v') w' := by
    simp [execOp, resolve, invoke, builtin, hx, hy, hr]
  rw [this]
  exact kk v' E' hE' w' hw'
end

/-! calls that hand back a value and blocks of their own -/
structure GivesE (P : Program) (k : FuncId) (args : List Value) (w : World) (R : Value → List (Nat × Obj) → Prop) : Prop where
  out : Calls P k args.toArray w fun e w' => ∃ v E, e = .returned v ∧ Bel w.heap.size w w' ∧ NewBlocks w w' E ∧ R v E
theorem GivesE.mono {P : Program} {k : FuncId} {args : List Value} {w : World} {R R' : Value → List (Nat × Obj) → Prop} (h : GivesE P k args w R) (hr : ∀ v E, R v E → R' v E) : GivesE P k args w R' :=
  ⟨h.out.mono fun e w' ⟨v, E, h1, h2, h3, h4⟩ => ⟨v, E, h1, h2, h3, hr v E h4⟩⟩
theorem givesE_of {P : Program} {k : FuncId} {fn : Func} {c : Code} {n : Nat} {args : List Value} {w : World} {R : Value → List (Nat × Obj) → Prop}
    (hf : P.funcs[k]? = some fn) (hb : fn.body = some c) (hn : fn.ntmps = n) (hl : args.length ≤ n)
    (h : cC P n c (retQ P fn n (fun v w' => ∃ E, Bel w.heap.size w w' ∧ NewBlocks w w' E ∧ R v E)) (argF args) (Has w (At w) [])) : GivesE P k args w R :=
  ⟨(givesR_of hf hb hn hl h).out.mono fun e w' ⟨v, he, E, h1, h2, h3⟩ => ⟨v, E, he, h1, h2, h3⟩⟩
theorem Has.new {w0 w : World} {F : Addr → Value → Prop} {E L : List (Nat × Obj)} (h : Has w0 F (E ++ L) w) : NewBlocks w0 w E :=
  ⟨(h.sub (List.sublist_append_left _ _)).2.1, (h.sub (List.sublist_append_left _ _)).2.2.1⟩
section
variable {P : Program} {ops : Array Oper} {K : (Nat → Value) → World → Prop} {rest : List Oper} {f : Nat → Value} {d : Nat} {ty : TypeId} {pos : String} {af : Array Edge} {w0 : World} {F : Addr → Value → Prop} {L : List (Nat × Obj)}
/-- .. which stay the caller's own -/
theorem s_callE {k : FuncId} {xs : List Operand} {ats : Array TypeId} {R : Value → List (Nat × Obj) → Prop} (hk : hasBody P k = true) (hg : ∀ w, Has w0 F L w → GivesE P k (xs.map (ev f)) w R)
    (kk : ∀ (v : Value) (E : List (Nat × Obj)), R v E → sC P ops K rest (upd f d v) (Has w0 F (E ++ L))) :
    sC P ops K (⟨some d, .call ⟨.value (.func k), xs.toArray, ats⟩, ty, pos, af, none⟩ :: rest) f (Has w0 F L) := by
  intro w hw
  unfold sw
  rw [if_pos wanted_free]
  unfold opk
  rw [run_call hk w]
  refine (hg w hw).out.mono fun e w' ⟨v, E, he, hb, hn, hr⟩ => ⟨_, he, ?_⟩
  exact kk v E hr w' (hw.gain hb hn)
/-- .. of which only what they hold is kept in mind -/
theorem s_callF {k : FuncId} {xs : List Operand} {ats : Array TypeId} {R : Value → List (Nat × Obj) → Prop} (hk : hasBody P k = true) (hg : ∀ w, Has w0 F L w → GivesE P k (xs.map (ev f)) w R)
    (kk : ∀ (F' : Addr → Value → Prop) (v : Value) (E : List (Nat × Obj)), More F F' → Knows F' E → R v E → sC P ops K rest (upd f d v) (Has w0 F' L)) :
    sC P ops K (⟨some d, .call ⟨.value (.func k), xs.toArray, ats⟩, ty, pos, af, none⟩ :: rest) f (Has w0 F L) := by
  intro w hw
  unfold sw
  rw [if_pos wanted_free]
  unfold opk
  rw [run_call hk w]
  refine (hg w hw).out.mono fun e w' ⟨v, E, he, hb, hn, hr⟩ => ⟨_, he, ?_⟩
  obtain ⟨h1, h2, h3⟩ := (hw.gain hb hn).forget
  exact kk _ v E h2 h3 hr w' h1
end
/-- a function with one result in a slot -/
theorem n_doneE {P : Program} {fn : Func} {n t : Nat} {f : Nat → Value} {w0 : World} {F : Addr → Value → Prop} {E L : List (Nat × Obj)} {R : Value → List (Nat × Obj) → Prop} (hr : fn.results = #[.tmp t]) (ht : t < n) (hv : R (f t) E) :
    nC (retQ P fn n (fun v w' => ∃ E, Bel w0.heap.size w0 w' ∧ NewBlocks w0 w' E ∧ R v E)) .ret f (Has w0 F (E ++ L)) :=
  fun w hw => ⟨f t, results_one hr ht w, E, hw.1, hw.new, hv⟩
/-- a function with one result in a variable -/
theorem n_doneCE {P : Program} {fn : Func} {n t T b m ty : Nat} {fr : Nat × Nat} {cs : Array Value} {f : Nat → Value} {w0 : World} {F : Addr → Value → Prop} {L E L' : List (Nat × Obj)} {R : Value → List (Nat × Obj) → Prop} (hr : fn.results = #[.cell t T]) (ht : t < n) (hp : f t = .pointer (some ⟨b, 0, none⟩))
    (hT : aggB P T m = true) (hl : Look L b (.cells cs ty fr)) (hm : cs.size = m) (hE : ∀ w, Has w0 F L w → Has w0 F (E ++ L') w) (hv : R (.agg cs) E) : nC (retQ P fn n (fun v w' => ∃ E, Bel w0.heap.size w0 w' ∧ NewBlocks w0 w' E ∧ R v E)) .ret f (Has w0 F L) := by
  intro w hw
  refine ⟨.agg cs, ?_, E, hw.1, (hE w hw).new, hv⟩
  have e : (Fa n f).tmps[t]?.getD undef = f t := by simp [Fa, ht]
  subst hm
  have := run_loadN (P := P) (w := w) (b := b) (o := 0) (cs := cs.toList) (by simpa using hT) (fun j v hj => by
    rw [cell_has hw hl]; simpa using hj)
  simp only [Instr.loadAt, Instr.sureAddr, Sem.run_bind, Sem.run_pure, Result.andThen] at this
  simp [results, hr, e, hp, asAddr, this]
/-- a function with two results, a struct in a variable and a slot -/
theorem n_done2 {P : Program} {fn : Func} {n t t2 T b m ty : Nat} {fr : Nat × Nat} {cs : Array Value} {f : Nat → Value} {w0 : World} {F : Addr → Value → Prop} {L E L' : List (Nat × Obj)} {R : Value → List (Nat × Obj) → Prop} (hr : fn.results = #[.cell t T, .tmp t2]) (ht : t < n) (ht2 : t2 < n) (hp : f t = .pointer (some ⟨b, 0, none⟩))
    (hT : aggB P T m = true) (hl : Look L b (.cells cs ty fr)) (hm : cs.size = m) (hE : ∀ w, Has w0 F L w → Has w0 F (E ++ L') w) (hv : R (.tuple #[.agg cs, f t2]) E) : nC (retQ P fn n (fun v w' => ∃ E, Bel w0.heap.size w0 w' ∧ NewBlocks w0 w' E ∧ R v E)) .ret f (Has w0 F L) := by
  intro w hw
  refine ⟨.tuple #[.agg cs, f t2], ?_, E, hw.1, (hE w hw).new, hv⟩
  have e : (Fa n f).tmps[t]?.getD undef = f t := by simp [Fa, ht]
  have e2 : (Fa n f).tmps[t2]?.getD undef = f t2 := by simp [Fa, ht2]
  subst hm
  have := run_loadN (P := P) (w := w) (b := b) (o := 0) (cs := cs.toList) (by simpa using hT) (fun j v hj => by
    rw [cell_has hw hl]; simpa using hj)
  simp only [Instr.loadAt, Instr.sureAddr, Sem.run_bind, Sem.run_pure, Result.andThen] at this
  simp [results, hr, e, e2, hp, asAddr, this]
/-! calls that hand back a value and memory that may be read -/
def Fresh (w w' : World) : Addr → Value → Prop := fun a v => w'.cell? a = some v ∧ w.heap.size ≤ a.block
structure GivesF (P : Program) (k : FuncId) (args : List Value) (w : World) (R : (Addr → Value → Prop) → Value → Prop) : Prop where
  out : Calls P k args.toArray w fun e w' => ∃ v, e = .returned v ∧ Bel w.heap.size w w' ∧ R (Fresh w w') v
/-- what is known more knows it too -/
def Mono (R : (Addr → Value → Prop) → Value → Prop) : Prop := ∀ F F' v, More F F' → R F v → R F' v
theorem Fresh.out {w0 w w' : World} {F : Addr → Value → Prop} {L : List (Nat × Obj)} (h : Has w0 F L w) : More (Fresh w w') (Out L w') := fun a v ⟨h1, h2⟩ => ⟨h1, fun hm => by
  obtain ⟨p, hp, e⟩ := List.mem_map.1 hm
  have := (Array.getElem?_eq_some_iff.1 (h.2.2.1 p hp).2).1
  omega⟩
theorem knows_fresh {w w' : World} {E : List (Nat × Obj)} (h : NewBlocks w w' E) : Knows (Fresh w w') E := fun b cs t fr hm j v hv =>
  ⟨by rw [cell_of_row w' b j cs t fr (h.2 _ hm).2]; exact hv, (h.2 _ hm).1⟩
theorem GivesE.toF {P : Program} {k : FuncId} {args : List Value} {w : World} {R : Value → List (Nat × Obj) → Prop} {R' : (Addr → Value → Prop) → Value → Prop} (h : GivesE P k args w R) (hr : ∀ F v E, Knows F E → R v E → R' F v) : GivesF P k args w R' :=
  ⟨h.out.mono fun e w' ⟨v, E, h1, h2, h3, h4⟩ => ⟨v, h1, h2, hr _ v E (knows_fresh h3) h4⟩⟩
theorem givesF_of {P : Program} {k : FuncId} {fn : Func} {c : Code} {n : Nat} {args : List Value} {w : World} {R : (Addr → Value → Prop) → Value → Prop}
    (hf : P.funcs[k]? = some fn) (hb : fn.body = some c) (hn : fn.ntmps = n) (hl : args.length ≤ n)
    (h : cC P n c (retQ P fn n (fun v w' => Bel w.heap.size w w' ∧ R (Fresh w w') v)) (argF args) (Has w (At w) [])) : GivesF P k args w R :=
  ⟨(givesR_of hf hb hn hl h).out.mono fun e w' ⟨v, he, h1, h2⟩ => ⟨v, he, h1, h2⟩⟩
/-- of what is known, what is younger than the call -/
def Young (w0 : World) (F : Addr → Value → Prop) : Addr → Value → Prop := fun a v => F a v ∧ w0.heap.size ≤ a.block
theorem s_callG {P : Program} {ops : Array Oper} {K : (Nat → Value) → World → Prop} {rest : List Oper} {f : Nat → Value} {d : Nat} {ty : TypeId} {pos : String} {af : Array Edge} {w0 : World} {F : Addr → Value → Prop} {L : List (Nat × Obj)}
    {k : FuncId} {xs : List Operand} {ats : Array TypeId} {R : (Addr → Value → Prop) → Value → Prop} (hk : hasBody P k = true) (hR : Mono R) (hg : ∀ w, Has w0 F L w → GivesF P k (xs.map (ev f)) w R)
    (kk : ∀ (F' : Addr → Value → Prop) (v : Value), More F F' → R (Young w0 F') v → sC P ops K rest (upd f d v) (Has w0 F' L)) :
    sC P ops K (⟨some d, .call ⟨.value (.func k), xs.toArray, ats⟩, ty, pos, af, none⟩ :: rest) f (Has w0 F L) := by
  intro w hw
  unfold sw
  rw [if_pos wanted_free]
  unfold opk
  rw [run_call hk w]
  refine (hg w hw).out.mono fun e w' ⟨v, he, hb, hr⟩ => ⟨_, he, ?_⟩
  obtain ⟨h1, h2⟩ := hw.learn hb
  exact kk _ v h2 (hR _ _ v (fun a v h => ⟨Fresh.out hw a v h, Nat.le_trans hw.1.size h.2⟩) hr) w' h1
theorem young_fresh {w0 w : World} {F : Addr → Value → Prop} {L : List (Nat × Obj)} (h : Has w0 F L w) : More (Young w0 F) (Fresh w0 w) := fun a v hy => ⟨(h.2.2.2 a v hy.1).1, hy.2⟩
theorem own_fresh {w0 w : World} {F : Addr → Value → Prop} {E L : List (Nat × Obj)} (h : Has w0 F (E ++ L) w) : Knows (Fresh w0 w) E := knows_fresh h.new
theorem n_doneF {P : Program} {fn : Func} {n t : Nat} {f : Nat → Value} {w0 : World} {F : Addr → Value → Prop} {L : List (Nat × Obj)} {R : (Addr → Value → Prop) → Value → Prop} (hr : fn.results = #[.tmp t]) (ht : t < n) (hv : ∀ w, Has w0 F L w → R (Fresh w0 w) (f t)) :
    nC (retQ P fn n (fun v w' => Bel w0.heap.size w0 w' ∧ R (Fresh w0 w') v)) .ret f (Has w0 F L) :=
  fun w hw => ⟨f t, results_one hr ht w, hw.1, hv w hw⟩
theorem n_doneCF {P : Program} {fn : Func} {n t T b m ty : Nat} {fr : Nat × Nat} {cs : Array Value} {f : Nat → Value} {w0 : World} {F : Addr → Value → Prop} {L : List (Nat × Obj)} {R : (Addr → Value → Prop) → Value → Prop} (hr : fn.results = #[.cell t T]) (ht : t < n) (hp : f t = .pointer (some ⟨b, 0, none⟩))
    (hT : aggB P T m = true) (hl : Look L b (.cells cs ty fr)) (hm : cs.size = m) (hv : ∀ w, Has w0 F L w → R (Fresh w0 w) (.agg cs)) : nC (retQ P fn n (fun v w' => Bel w0.heap.size w0 w' ∧ R (Fresh w0 w') v)) .ret f (Has w0 F L) := by
  intro w hw
  refine ⟨.agg cs, ?_, hw.1, hv w hw⟩
  have e : (Fa n f).tmps[t]?.getD undef = f t := by simp [Fa, ht]
  subst hm
  have := run_loadN (P := P) (w := w) (b := b) (o := 0) (cs := cs.toList) (by simpa using hT) (fun j v hj => by
    rw [cell_has hw hl]; simpa using hj)
  simp only [Instr.loadAt, Instr.sureAddr, Sem.run_bind, Sem.run_pure, Result.andThen] at this
  simp [results, hr, e, hp, asAddr, this]
theorem n_done2F {P : Program} {fn : Func} {n t t2 T b m ty : Nat} {fr : Nat × Nat} {cs : Array Value} {f : Nat → Value} {w0 : World} {F : Addr → Value → Prop} {L : List (Nat × Obj)} {R : (Addr → Value → Prop) → Value → Prop} (hr : fn.results = #[.cell t T, .tmp t2]) (ht : t < n) (ht2 : t2 < n) (hp : f t = .pointer (some ⟨b, 0, none⟩))
    (hT : aggB P T m = true) (hl : Look L b (.cells cs ty fr)) (hm : cs.size = m) (hv : ∀ w, Has w0 F L w → R (Fresh w0 w) (.tuple #[.agg cs, f t2])) : nC (retQ P fn n (fun v w' => Bel w0.heap.size w0 w' ∧ R (Fresh w0 w') v)) .ret f (Has w0 F L) := by
  intro w hw
  refine ⟨.tuple #[.agg cs, f t2], ?_, hw.1, hv w hw⟩
  have e : (Fa n f).tmps[t]?.getD undef = f t := by simp [Fa, ht]
  have e2 : (Fa n f).tmps[t2]?.getD undef = f t2 := by simp [Fa, ht2]
  subst hm
  have := run_loadN (P := P) (w := w) (b := b) (o := 0) (cs := cs.toList) (by simpa using hT) (fun j v hj => by
    rw [cell_has hw hl]; simpa using hj)
  simp only [Instr.loadAt, Instr.sureAddr, Sem.run_bind, Sem.run_pure, Result.andThen] at this
  simp [results, hr, e, e2, hp, asAddr, this]

/-! lists of numbers in memory that is known -/
def IntsIn (F : Addr → Value → Prop) (v : Value) (xs : List Int) : Prop := ∃ a c, v = .slice a xs.length c ∧ (xs = [] ∨ ∃ b o, a = some ⟨b, o, none⟩ ∧ ∀ (j : Nat) (x : Int), xs[j]? = some x → F ⟨b, o + j, none⟩ (I x))
theorem IntsIn.mono {F F' : Addr → Value → Prop} {v : Value} {xs : List Int} (h : IntsIn F v xs) (hm : More F F') : IntsIn F' v xs := by
  obtain ⟨a, c, h1, h2⟩ := h
  refine ⟨a, c, h1, ?_⟩
  rcases h2 with h2 | ⟨b, o, h3, h4⟩
  · exact .inl h2
  · exact .inr ⟨b, o, h3, fun j x hj => hm _ _ (h4 j x hj)⟩
theorem ints_of_list {F : Addr → Value → Prop} {e : Nat} {v : Value} {xs : List Int} {E : List (Nat × Obj)} (h : ListE e 1 v xs.length (xs.map I) E) (hk : Knows F E) : IntsIn F v xs := by
  rcases h.2 with ⟨rfl, h2, rfl⟩ | ⟨g, cap, cur, rfl, rfl, h3, h4, h5, h6⟩
  · have : xs = [] := List.eq_nil_of_length_eq_zero h2
    subst this
    exact ⟨none, 0, rfl, .inl rfl⟩
  · refine ⟨_, _, rfl, .inr ⟨g, 0, rfl, fun j x hj => ?_⟩⟩
    rw [Nat.zero_add]
    refine hk g cur e (0, 0) (by simp) j (I x) ?_
    have e1 : (xs.map I)[j]? = some (I x) := by simp [hj]
    rw [← h6, List.getElem?_take] at e1
    split at e1
    · simpa using e1
    · cases e1
end Go.Proofs.Ytbgnmapmiobjcaa
