/- What bookBack_holds stands on, part 6: each part says what it proves. No condition beside those that it names. -/
import Derived.Test.YtmkboljfbmlebaaPL115
import Derived.Sort.Grow
import Derived.Deep.Draws
/- What is handed back for a frame; digits, numbers and acts read of a text. No condition. -/
namespace Go.Proofs.Ytmkboljfbmlebaa
open Go.RowKit
set_option linter.unusedSimpArgs false
set_option linter.unusedVariables false

def fText (a : ActS) : List Nat := bif noted a then frameOf a else []
def fErr (a : ActS) : Int := bif noted a then 0 else 3
def frameR (a : ActS) : Value := .tuple #[S (fText a), I (fErr a)]
theorem frameR_yes {a : ActS} (h : noted a = true) : frameR a = .tuple #[S (frameOf a), I 0] := by simp [frameR, fText, fErr, h]
theorem frameR_no {a : ActS} (h : noted a = false) : frameR a = .tuple #[S [], I 3] := by simp [frameR, fText, fErr, h]
theorem fErr_ok {a : ActS} (h : fErr a = 0) : noted a = true := by
  cases hn : noted a
  · simp [fErr, hn] at h
  · rfl
theorem fText_byt (a : ActS) : Byt (fText a) := by
  unfold fText
  cases hn : noted a
  · exact byt_nil
  · exact frame_byte hn

/-! digits -/
structure Dig (t : List Nat) (j u : Nat) : Prop where
  j6 : j ≤ 6
  ub : u < 128 ^ j
  jl : j ≤ t.length
  rel : undig 7 t = (undig (7 - j) (t.drop j)).map fun p => (u + 128 ^ j * p.1, p.2)
theorem dig_start (t : List Nat) : Dig t 0 0 := ⟨by omega, by decide, by omega, by
  simp only [Nat.sub_zero, List.drop_zero, Nat.pow_zero, Nat.one_mul, Nat.zero_add]
  cases undig 7 t <;> rfl⟩
theorem drop_cons {t : List Nat} {j b : Nat} (h : t[j]? = some b) : t.drop j = b :: t.drop (j + 1) := by
  obtain ⟨hj, e⟩ := List.getElem?_eq_some_iff.1 h
  rw [List.drop_eq_getElem_cons hj, e]
theorem Dig.step {t : List Nat} {j u b : Nat} (o : Dig t j u) (hb : t[j]? = some b) (h1 : 128 ≤ b) (h2 : b < 256) (hj : j < 6) : Dig t (j + 1) (u + (b - 128) * 128 ^ j) := by
  refine ⟨by omega, ?_, (List.getElem?_eq_some_iff.1 hb).1, ?_⟩
  · have := o.ub
    have h3 : (b - 128) * 128 ^ j ≤ 127 * 128 ^ j := Nat.mul_le_mul_right _ (by omega)
    rw [Nat.pow_succ]; omega
  · rw [o.rel, drop_cons hb, show 7 - j = (7 - (j + 1)) + 1 by omega, undig, if_neg (by omega)]
    cases undig (7 - (j + 1)) (t.drop (j + 1)) with
    | none => rfl
    | some p =>
      simp only [Option.map_some]
      congr 2
      rw [Nat.mul_add, Nat.pow_succ, ← Nat.mul_assoc, Nat.mul_comm (128 ^ j) (b - 128), Nat.add_assoc]
theorem Dig.stop {t : List Nat} {j u : Nat} (o : Dig t j u) (h : t.length ≤ j) : undig 7 t = none := by
  rw [o.rel, List.drop_eq_nil_of_le h, show 7 - j = (6 - j) + 1 by have := o.j6; omega]
  rfl
theorem Dig.high {t : List Nat} {j u b : Nat} (o : Dig t j u) (hb : t[j]? = some b) (h1 : 128 ≤ b) (hj : ¬ j < 6) : undig 7 t = none := by
  have : j = 6 := by have := o.j6; omega
  subst this
  rw [o.rel, drop_cons hb, show 7 - 6 = 0 + 1 by omega, undig, if_neg (by omega)]
  rfl
theorem Dig.last {t : List Nat} {j u b : Nat} (o : Dig t j u) (hb : t[j]? = some b) (h1 : b < 128) : undig 7 t = some (u + b * 128 ^ j, t.drop (j + 1)) ∧ u + b * 128 ^ j < 128 ^ 7 := by
  have h6 := o.j6
  refine ⟨?_, ?_⟩
  · rw [o.rel, drop_cons hb, show 7 - j = (6 - j) + 1 by omega, undig, if_pos h1, Option.map_some, Nat.mul_comm (128 ^ j) b]
  · have := o.ub
    have h3 : b * 128 ^ j ≤ 127 * 128 ^ j := Nat.mul_le_mul_right _ (by omega)
    have h4 : 128 ^ (j + 1) ≤ 128 ^ 7 := Nat.pow_le_pow_right (by omega) (by omega)
    rw [Nat.pow_succ] at h4
    omega
theorem pow_lt40 {j : Nat} (h : j ≤ 6) : ((((128 ^ j : Nat) : Int)) < 1099511627776 ↔ j < 6) := by
  have : j = 0 ∨ j = 1 ∨ j = 2 ∨ j = 3 ∨ j = 4 ∨ j = 5 ∨ j = 6 := by omega
  rcases this with rfl | rfl | rfl | rfl | rfl | rfl | rfl <;> simp
theorem pow_le42 {j : Nat} (h : j ≤ 6) : 128 ^ j ≤ 4398046511104 ∧ 1 ≤ 128 ^ j := by
  have : j = 0 ∨ j = 1 ∨ j = 2 ∨ j = 3 ∨ j = 4 ∨ j = 5 ∨ j = 6 := by omega
  rcases this with rfl | rfl | rfl | rfl | rfl | rfl | rfl <;> simp
/-! numbers, one behind the other -/
def nums : Nat → List Nat → Option (List Nat × List Nat)
  | 0, l => some ([], l)
  | k + 1, l => match nums k l with
    | none => none
    | some (us, t) => (undig 7 t).map fun p => (us ++ [p.1], p.2)
theorem nums_step {k : Nat} {l us t : List Nat} (h : nums k l = some (us, t)) : nums (k + 1) l = (undig 7 t).map fun p => (us ++ [p.1], p.2) := by simp only [nums, h]
theorem nums_none {k : Nat} {l : List Nat} (h : nums k l = none) : ∀ m, nums (k + m) l = none
  | 0 => h
  | m + 1 => by
    have := nums_none h m
    rw [show k + (m + 1) = (k + m) + 1 by omega]
    simp only [nums, this]
def actOf (us : List Nat) : ActS := ⟨zag (us.getD 0 0), zag (us.getD 1 0), zag (us.getD 2 0), zag (us.getD 3 0), zag (us.getD 4 0)⟩
theorem nums_body {x : ActS} (h : noted x = true) (r : List Nat) : nums 5 (bodyOf x ++ r) = some ([zig x.kind, zig x.a, zig x.b, zig x.c, zig x.n], r) := by
  obtain ⟨h1, h2, h3, h4, h5⟩ := noted_all h
  have e1 := undig_digs 6 _ (digs (zig x.a) ++ (digs (zig x.b) ++ (digs (zig x.c) ++ (digs (zig x.n) ++ r)))) (zig_lt7 h1)
  have e2 := undig_digs 6 _ (digs (zig x.b) ++ (digs (zig x.c) ++ (digs (zig x.n) ++ r))) (zig_lt7 h2)
  have e3 := undig_digs 6 _ (digs (zig x.c) ++ (digs (zig x.n) ++ r)) (zig_lt7 h3)
  have e4 := undig_digs 6 _ (digs (zig x.n) ++ r) (zig_lt7 h4)
  have e5 := undig_digs 6 _ r (zig_lt7 h5)
  simp only [nums, bodyOf, List.append_assoc]
  simp only [e1, e2, e3, e4, e5, Option.map_some]
  rfl
theorem actOf_zig (x : ActS) : actOf [zig x.kind, zig x.a, zig x.b, zig x.c, zig x.n] = x := by simp [actOf, zag_zig]
/-! what stands in front -/
theorem stands_body {x : ActS} {k0 : Nat} {r : List Nat} (h : Stands x (k0 :: r)) : k0 = (bodyOf x).length ∧ r.take k0 = bodyOf x ∧ k0 + 3 ≤ (k0 :: r).length ∧ (k0 :: r).take (k0 + 3) = frameOf x := by
  obtain ⟨nx, s, hs⟩ := h
  have hl := frame_len x
  have e : k0 = (bodyOf x).length ∧ r = bodyOf x ++ ([(sumOf (bodyOf x)).1 % 251, (sumOf (bodyOf x)).2 % 251] ++ s) := by
    simp only [frameOf, List.cons_append, List.cons.injEq] at hs
    exact ⟨hs.1.symm, by rw [← hs.2]; simp⟩
  refine ⟨e.1, by rw [e.2, e.1]; exact List.take_left, ?_, ?_⟩
  · rw [← hs, List.length_append]; omega
  · rw [← hs, show k0 + 3 = (frameOf x).length by omega]; exact List.take_left
theorem read_short {k0 : Nat} {r : List Nat} (h : (k0 :: r).length < k0 + 3) : first? (k0 :: r) = none := (first_none _).2 fun x hx => by
  have := (stands_body hx).2.2.1; omega
theorem read_broken {k0 k : Nat} {r us t : List Nat} (hk : k < 5) (hn : nums k (r.take k0) = some (us, t)) (hu : undig 7 t = none) : first? (k0 :: r) = none := (first_none _).2 fun x hx => by
  obtain ⟨_, h2, _, _⟩ := stands_body hx
  have h1 : nums (k + 1) (r.take k0) = none := by rw [nums_step hn, hu]; rfl
  have h5 := nums_none h1 (4 - k)
  rw [show k + 1 + (4 - k) = 5 by omega, h2] at h5
  have := nums_body hx.1 []
  rw [List.append_nil] at this
  rw [this] at h5; cases h5
theorem read_other {k0 : Nat} {r us t : List Nat} (hn : nums 5 (r.take k0) = some (us, t)) (hno : ¬ (noted (actOf us) = true ∧ frameOf (actOf us) = (k0 :: r).take (k0 + 3))) : first? (k0 :: r) = none := (first_none _).2 fun x hx => by
  obtain ⟨_, h2, _, h4⟩ := stands_body hx
  have := nums_body hx.1 []
  rw [List.append_nil, ← h2, hn] at this
  simp at this
  apply hno
  rw [this.1, actOf_zig]
  exact ⟨hx.1, h4.symm⟩
theorem read_this {k0 : Nat} {r us : List Nat} (h1 : noted (actOf us) = true) (h2 : frameOf (actOf us) = (k0 :: r).take (k0 + 3)) : first? (k0 :: r) = some (actOf us) := (first_iff _ _).2 ⟨h1, by rw [h2]; exact List.take_prefix _ _⟩
/-! five numbers in a row -/
def vnum (us : List Nat) (i : Nat) : Int := if i < us.length then zag (us.getD i 0) else 0
def vrow (us : List Nat) : Array Value := Array.ofFn (n := 5) fun i => I (vnum us i.val)
theorem vrow_size (us : List Nat) : (vrow us).size = 5 := by simp [vrow]
theorem vrow_at (us : List Nat) (i : Nat) (hi : i < 5) : (vrow us)[0 + ((i : Nat) : Int).toNat * 1]? = some (I (vnum us i)) := by
  have e : 0 + ((i : Nat) : Int).toNat * 1 = i := by omega
  rw [e]
  simp [vrow, hi]
theorem vrow_set {us : List Nat} {u k : Nat} (hk : us.length = k) (h5 : k < 5) : (vrow us).setIfInBounds (0 + ((k : Nat) : Int).toNat * 1) (I (zag u)) = vrow (us ++ [u]) := by
  have e : 0 + ((k : Nat) : Int).toNat * 1 = k := by omega
  rw [e]
  unfold vrow
  exact setq (fun i => I (vnum us i)) (fun i => I (vnum (us ++ [u]) i)) (fun i hi => by
    unfold vnum
    rw [List.length_append]
    simp only [List.length_cons, List.length_nil]
    by_cases h : i = k
    · subst h
      rw [if_pos (by omega), if_pos rfl]
      congr 2
      rw [List.getD_eq_getElem?_getD, List.getElem?_append_right (by omega), hk]
      simp
    · rw [if_neg h]
      by_cases h2 : i < us.length
      · rw [if_pos (by omega), if_pos h2]
        congr 2
        rw [List.getD_eq_getElem?_getD, List.getD_eq_getElem?_getD, List.getElem?_append_left h2]
      · rw [if_neg (by omega), if_neg h2])
theorem vrow_set2 {us : List Nat} {u k : Nat} {x : Int} (hk : us.length = k) (h5 : k < 5) : ((vrow us).setIfInBounds (0 + ((k : Nat) : Int).toNat * 1) (I x)).setIfInBounds (0 + ((k : Nat) : Int).toNat * 1) (I (zag u)) = vrow (us ++ [u]) := by
  rw [← vrow_set hk h5]
  apply Array.ext_getElem?
  intro i
  simp only [Array.getElem?_setIfInBounds, Array.size_setIfInBounds]
  split <;> rfl
def act5 (us : List Nat) : ActS := ⟨vnum us 0, vnum us 1, vnum us 2, vnum us 3, vnum us 4⟩
theorem act5_of {us : List Nat} (h : us.length = 5) : act5 us = actOf us := by simp [act5, actOf, vnum, h]
theorem zag_even {u : Nat} (h : ¬ ((u % 2 : Nat) : Int) = 1) : ((u / 2 : Nat) : Int) = zag u := by unfold zag; rw [if_neg (by omega)]
theorem zag_odd {u : Nat} (h : ((u % 2 : Nat) : Int) = 1) : (-(u : Int)).tdiv 2 - 1 = zag u := by
  unfold zag
  rw [if_pos (by omega), Int.neg_tdiv, show ((u : Int)).tdiv 2 = ((u / 2 : Nat) : Int) from tdiv_nat u 2]
theorem zag_odd' {u : Nat} (h : ((u % 2 : Nat) : Int) = 1) : -((u / 2 : Nat) : Int) - 1 = zag u := by unfold zag; rw [if_pos (by omega)]
theorem neg_half (u : Nat) : (-(u : Int)).tdiv 2 = -((u / 2 : Nat) : Int) := by rw [Int.neg_tdiv, show ((u : Int)).tdiv 2 = ((u / 2 : Nat) : Int) from tdiv_nat u 2]
theorem dig_cast {b u j : Nat} (h : 128 ≤ b) : (u : Int) + ((b : Int) - 128) * ((128 ^ j : Nat) : Int) = ((u + (b - 128) * 128 ^ j : Nat) : Int) := by
  rw [show (b : Int) - 128 = ((b - 128 : Nat) : Int) by omega]
  simp only [Int.natCast_add, Int.natCast_mul]
theorem last_cast (b u j : Nat) : (u : Int) + (b : Int) * ((128 ^ j : Nat) : Int) = ((u + b * 128 ^ j : Nat) : Int) := by simp only [Int.natCast_add, Int.natCast_mul]
theorem mul_fits {a : Int} {p : Nat} (ha : 0 ≤ a ∧ a < 256) (hp : p ≤ 4398046511104) : 0 ≤ a * (p : Int) ∧ a * (p : Int) ≤ 1125899906842624 := by
  refine ⟨Int.mul_nonneg ha.1 (by omega), ?_⟩
  have : a * (p : Int) ≤ 256 * 4398046511104 := Int.mul_le_mul (by omega) (by omega) (by omega) (by omega)
  omega
structure PG where
  k : Nat
  us : List Nat
  pos : Nat
structure PgOk (k0 : Nat) (B : List Nat) (t : PG) : Prop where
  k5 : t.k ≤ 5
  ul : t.us.length = t.k
  p1 : 1 ≤ t.pos ∧ t.pos ≤ k0 + 1
  run : nums t.k B = some (t.us, B.drop (t.pos - 1))
theorem PgOk.next {k0 : Nat} {B : List Nat} {t : PG} (o : PgOk k0 B t) (hB : B.length = k0) (hk : t.k < 5) {j u b : Nat} (hd : Dig (B.drop (t.pos - 1)) j u) (hb : (B.drop (t.pos - 1))[j]? = some b) (h1 : b < 128) : PgOk k0 B ⟨t.k + 1, t.us ++ [u + b * 128 ^ j], t.pos + j + 1⟩ := by
  have hl := (List.getElem?_eq_some_iff.1 hb).1
  rw [List.length_drop] at hl
  have hp := o.p1
  refine ⟨hk, by simp [o.ul], by simp only; omega, ?_⟩
  rw [nums_step o.run, (hd.last hb h1).1, Option.map_some, List.drop_drop, show t.pos - 1 + (j + 1) = t.pos + j + 1 - 1 by omega]
theorem PgOk.broken {k0 : Nat} {r : List Nat} {t : PG} (o : PgOk k0 (r.take k0) t) (hk : t.k < 5) (hu : undig 7 ((r.take k0).drop (t.pos - 1)) = none) : first? (k0 :: r) = none := read_broken hk o.run hu
/-! lists of acts -/
def flatA (xs : List ActS) : List Value := xs.flatMap fun x => x.cells.toList
def ActsIn (F : Addr → Value → Prop) (v : Value) (xs : List ActS) : Prop := ∃ a c, v = .slice a xs.length c ∧ xs.length ≤ c ∧ (xs = [] ∨ ∃ b o, a = some ⟨b, o, none⟩ ∧ ∀ (j : Nat) (x : ActS), xs[j]? = some x → ∀ (k : Nat) (v : Value), x.cells[k]? = some v → F ⟨b, o + j * 5 + k, none⟩ v)
theorem flatA_get : ∀ (xs : List ActS) (j : Nat) (x : ActS), xs[j]? = some x → ∀ (k : Nat) (v : Value), x.cells[k]? = some v → (flatA xs)[j * 5 + k]? = some v
  | [], j, x, h, _, _, _ => by simp at h
  | q :: r, j, x, h, k, v, hv => by
    have hk : k < 5 := by
      rcases Nat.lt_or_ge k 5 with h | h
      · exact h
      · rw [Array.getElem?_eq_none (by simpa [ActS.cells] using h)] at hv; cases hv
    have hl : q.cells.toList.length = 5 := rfl
    cases j with
    | zero =>
      simp at h; subst h
      simp only [flatA, List.flatMap_cons, Nat.zero_mul, Nat.zero_add]
      rw [List.getElem?_append_left (by rw [hl]; exact hk)]
      simpa using hv
    | succ j =>
      simp only [List.getElem?_cons_succ] at h
      simp only [flatA, List.flatMap_cons]
      rw [List.getElem?_append_right (by rw [hl]; omega), hl, show (j + 1) * 5 + k - 5 = j * 5 + k by omega]
      exact flatA_get r j x h k v hv
theorem acts_of_list {F : Addr → Value → Prop} {e : Nat} {v : Value} {xs : List ActS} {E : List (Nat × Obj)} (h : ListE e 5 v xs.length (flatA xs) E) (hk : Knows F E) : ActsIn F v xs := by
  rcases h.2 with ⟨rfl, h2, rfl⟩ | ⟨g, cap, cur, rfl, rfl, h3, h4, h5, h6⟩
  · have : xs = [] := List.eq_nil_of_length_eq_zero h2
    subst this
    exact ⟨none, 0, rfl, Nat.le_refl _, .inl rfl⟩
  · refine ⟨_, _, rfl, h3, .inr ⟨g, 0, rfl, fun j x hj k v hv => ?_⟩⟩
    rw [Nat.zero_add]
    refine hk g cur e (0, 0) (by simp) _ _ ?_
    have e1 := flatA_get xs j x hj k v hv
    rw [← h6, List.getElem?_take] at e1
    split at e1
    · simpa using e1
    · cases e1
theorem acts_mono (xs : List ActS) : Mono (fun F v => ActsIn F v xs) := by
  rintro F F' v hm ⟨a, c, h1, h2, h3⟩
  refine ⟨a, c, h1, h2, ?_⟩
  rcases h3 with h3 | ⟨b, o, h3, h4⟩
  · exact .inl h3
  · exact .inr ⟨b, o, h3, fun j x hj k v hv => hm _ _ (h4 j x hj k v hv)⟩
def ReadF (l : List Nat) (F : Addr → Value → Prop) (v : Value) : Prop := ∃ v1, v = .tuple #[v1, I (bytesOf (readM l)).length] ∧ ActsIn F v1 (readM l)
theorem readF_mono (l : List Nat) : Mono (ReadF l) := by
  rintro F F' v hm ⟨v1, h1, h2⟩
  exact ⟨v1, h1, acts_mono _ _ _ _ hm h2⟩
structure RB where
  xs : List ActS
  v : Value
  E : List (Nat × Obj)
structure RbOk (e : Nat) (l : List Nat) (t : RB) : Prop where
  list : ListE e 5 t.v t.xs.length (flatA t.xs) t.E
  front : (bytesOf t.xs).length ≤ l.length
  read : readM l = t.xs ++ readM (l.drop (bytesOf t.xs).length)
  eight : t.xs.length * 3 ≤ (bytesOf t.xs).length
theorem RbOk.done {e : Nat} {l : List Nat} {t : RB} (o : RbOk e l t) (h : first? (l.drop (bytesOf t.xs).length) = none) {F : Addr → Value → Prop} (hk : Knows F t.E) : ReadF l F (.tuple #[t.v, I (bytesOf t.xs).length]) := by
  have e1 := o.read
  rw [readM_none h, List.append_nil] at e1
  unfold ReadF
  rw [e1]
  exact ⟨_, rfl, acts_of_list o.list hk⟩
theorem RbOk.next {e : Nat} {l : List Nat} {t : RB} (o : RbOk e l t) {x : ActS} (h : first? (l.drop (bytesOf t.xs).length) = some x) {v' : Value} {E' : List (Nat × Obj)} (hl : ListE e 5 v' (t.xs.length + 1) (flatA t.xs ++ x.cells.toList) E') : RbOk e l ⟨t.xs ++ [x], v', E'⟩ ∧ (bytesOf (t.xs ++ [x])).length = (bytesOf t.xs).length + (bodyOf x).length + 3 := by
  have hb : bytesOf (t.xs ++ [x]) = bytesOf t.xs ++ frameOf x := by simp [bytesOf]
  have hfl := frame_len x
  have hs := ((first_iff _ _).1 h).2.length_le
  rw [List.length_drop] at hs
  have hfr := o.front
  have h8 := o.eight
  refine ⟨⟨by simpa [flatA] using hl, ?_, ?_, ?_⟩, by rw [hb, List.length_append]; omega⟩
  · simp only; rw [hb, List.length_append]; omega
  · simp only
    rw [o.read, readM_some h, hb, List.length_append, List.append_assoc, List.drop_drop]
    rfl
  · simp only; rw [hb, List.length_append, List.length_append]; simp only [List.length_cons, List.length_nil]; omega
end Go.Proofs.Ytmkboljfbmlebaa
/- A house far from its bounds stays valid over a sweep, and loses no money. No condition. -/
namespace Go.Proofs.Ytmkboljfbmlebaa
open Go.RowKit
set_option linter.unusedSimpArgs false
set_option linter.unusedVariables false

def GoodPs (ps : List PayS) : Prop := ∀ p ∈ ps, goodPayB p = true
theorem goB_all {nx : Int} : ∀ (ps : List PayS) (seen : List Int), goB nx seen ps = true → GoodPs ps ∧ (∀ p ∈ ps, p.seq ∉ seen) ∧ ∀ (i j : Nat) (p q : PayS), ps[i]? = some p → ps[j]? = some q → p.seq = q.seq → i = j
  | [], seen, _ => ⟨fun p hp => (by cases hp), fun p hp => (by cases hp), fun i j p q h => (by simp at h)⟩
  | x :: r, seen, h => by
    simp only [goB] at h
    cases hb : (!goodPayB x || decide (nx ≤ x.seq) || decide (x.seq ∈ seen))
    · rw [hb] at h
      simp only [cond_false] at h
      simp only [Bool.or_eq_false_iff, Bool.not_eq_false', decide_eq_false_iff_not] at hb
      obtain ⟨h1, h2, h3⟩ := goB_all r _ h
      have hx : ∀ p ∈ r, p.seq ≠ x.seq := fun p hp e => h2 p hp (by rw [e]; simp)
      refine ⟨fun p hp => ?_, fun p hp => ?_, fun i j p q hi hj e => ?_⟩
      · rcases List.mem_cons.1 hp with rfl | hp
        · exact hb.1.1
        · exact h1 p hp
      · rcases List.mem_cons.1 hp with rfl | hp
        · exact hb.2
        · exact fun hm => h2 p hp (by simp [hm])
      · cases i with
        | zero =>
          cases j with
          | zero => rfl
          | succ j =>
            simp at hi hj; subst hi
            exact absurd e.symm (hx q (List.mem_of_getElem? hj))
        | succ i =>
          cases j with
          | zero =>
            simp at hi hj; subst hj
            exact absurd e (hx p (List.mem_of_getElem? hi))
          | succ j =>
            simp at hi hj
            rw [h3 i j p q hi hj e]
    · rw [hb] at h; cases h
theorem good_pays {h : H} {ps : List PayS} (hg : goodB h ps = true) : GoodPs ps ∧ SeqsApart ps ∧ ps.length ≤ 24 := by
  unfold goodB goodPaysB at hg
  simp only [Bool.and_eq_true] at hg
  obtain ⟨⟨⟨⟨_, h1⟩, _⟩, _⟩, _⟩ := hg
  cases hl : decide (24 < (ps.length : Int))
  · rw [hl] at h1
    simp only [cond_false] at h1
    obtain ⟨e1, _, e3⟩ := goB_all ps [] h1
    have := of_decide_eq_false hl
    exact ⟨e1, e3, by omega⟩
  · rw [hl] at h1; cases h1
structure Room (k : Int) (h : H) : Prop where
  has : ∀ i : Int, 0 ≤ i ∧ i < 4 → -1099478073344 - k * 1000000 ≤ h.has i ∧ h.has i ≤ 1099478073344 + k * 1000000
  cred : ∀ i : Int, 0 ≤ i ∧ i < 4 → 0 ≤ h.cred i ∧ h.cred i ≤ 1000000
  diag : ∀ i : Int, 0 ≤ i ∧ i < 4 → h.sent i i = 0
  sent : ∀ i j : Int, 0 ≤ i ∧ i < 4 → 0 ≤ j ∧ j < 4 → 0 ≤ h.sent i j ∧ h.sent i j ≤ 1099478073344 + k * 1000000
  lim : ∀ i j : Int, 0 ≤ i ∧ i < 4 → 0 ≤ j ∧ j < 4 → -1 ≤ h.lim i j ∧ h.lim i j ≤ 1000000
theorem Room.good {k : Int} {h : H} (r : Room k h) (hk : k ≤ 33) : GoodH h :=
  ⟨fun i hi => by have := r.has i hi; omega, r.cred, r.diag, fun i j hi hj => by have := r.sent i j hi hj; omega, r.lim⟩
theorem room_of {h : H} (g : GoodH h) (hr : roomyB h = true) : Room 0 h := by
  unfold roomyB at hr
  simp only [a4_iff, Bool.and_eq_true, Bool.not_eq_true', decide_eq_false_iff_not] at hr
  exact ⟨fun i hi => by have := (hr i hi).1; omega, g.cred, g.diag, fun i j hi hj => by have h1 := (hr i hi).2 j hj; have := g.sent i j hi hj; omega, g.lim⟩
theorem Room.move {k : Int} {h : H} (r : Room k h) (h0 : 0 ≤ k) (hk : k ≤ 32) {a b n : Int} (ht : goodTransferB a b n = true) : Room (k + 1) (moveM h a b n) := by
  obtain ⟨ha, hb, hne, h1, h2⟩ := transfer_spec ht
  rw [move_eq (r.good (by omega)) ht]
  refine ⟨fun i hi => ?_, r.cred, fun i hi => ?_, fun i j hi hj => ?_, r.lim⟩
  · have e1 := r.has i hi
    simp only [up1]
    split
    · rename_i e; subst e; omega
    · split
      · rename_i e; subst e; omega
      · omega
  · simp only [up2]
    split
    · rename_i e; exact absurd (e.1.symm.trans e.2) hne
    · exact r.diag i hi
  · have e1 := r.sent i j hi hj
    simp only [up2]
    split
    · rename_i e; obtain ⟨e2, e3⟩ := e; subst e2; subst e3; omega
    · omega
theorem settleP_good {ps : List PayS} (hg : GoodPs ps) (i : Int) : GoodPs (settleP ps i) := by
  unfold settleP
  split
  · rename_i p hs
    intro q hq
    obtain ⟨_, hp, _⟩ := settles_spec hs
    rcases List.mem_or_eq_of_mem_set hq with hq | rfl
    · exact hg q hq
    · have := hg p (List.mem_of_getElem? hp)
      simp only [goodPayB, goodStateB, Bool.and_eq_true] at this ⊢
      exact ⟨⟨this.1.1, by simp⟩, this.2⟩
  · exact hg
theorem pay_transfer {p : PayS} (h : goodPayB p = true) : goodTransferB p.src p.dst p.amt = true := by
  simp only [goodPayB, Bool.and_eq_true] at h
  exact h.1.1.1
theorem chain_room : ∀ (r : List Int) (c : H) (ps : List PayS) (k : Int), Room k c → GoodPs ps → Chain c ps r → 0 ≤ k → k + r.length ≤ 33 → Room (k + r.length) (chainC c ps r) ∧ GoodPs (chainP ps r) ∧ sumM (chainC c ps r) = sumM c
  | [], c, ps, k, hr, hg, _, _, _ => ⟨by simpa [chainC] using hr, hg, rfl⟩
  | i :: r, c, ps, k, hr, hg, hc, h0, hk => by
    obtain ⟨⟨b, _, hf⟩, h2⟩ := hc
    obtain ⟨p, _, _, h3, _⟩ := firstM_spec hf
    simp only [List.length_cons] at hk
    have hp := (settles_spec h3).2.1
    have ht := pay_transfer (hg p (List.mem_of_getElem? hp))
    have e : settleC c ps i = moveM c p.src p.dst p.amt := by simp only [settleC, h3]
    have hr' : Room (k + 1) (settleC c ps i) := by rw [e]; exact hr.move h0 (by omega) ht
    obtain ⟨a1, a2, a3⟩ := chain_room r _ _ (k + 1) hr' (settleP_good hg i) h2 (by omega) (by omega)
    refine ⟨?_, a2, ?_⟩
    · have e1 : k + ((i :: r).length : Int) = k + 1 + (r.length : Int) := by simp only [List.length_cons]; omega
      rw [e1]; exact a1
    · simp only [chainC]
      rw [a3, e]
      exact move_sum (hr.good (by omega)) _ _ _
/-- what a sweep of a roomy house leaves -/
theorem sweep_room {h : H} {ps : List PayS} (hg : goodB h.core ps = true) (hr : roomyB h.core = true) : GoodH (sweepM h.core ps).c ∧ sumM (sweepM h.core ps).c = sumM h.core ∧ (sweepM h.core ps).xs.length ≤ 24 := by
  obtain ⟨g1, g2, g3⟩ := good_pays hg
  obtain ⟨c1, c2, c3⟩ := sweepM_goes hg
  have hl : (sweepM h.core ps).xs.length ≤ 24 := by
    have h1 : ∀ (r : List Int) (c : H) (ps : List PayS), Chain c ps r → r.length ≤ cnt ps := by
      intro r
      induction r with
      | nil => intros; simp
      | cons i r ih =>
        intro c ps h
        obtain ⟨⟨b, _, hf⟩, h2⟩ := h
        obtain ⟨p, _, _, h3, _⟩ := firstM_spec hf
        have := cnt_settle h3
        have := ih _ _ h2
        simp only [List.length_cons]; omega
    have := h1 _ _ _ c1
    have h4 : cnt ps ≤ ps.length := List.countP_le_length
    omega
  obtain ⟨a1, a2, a3⟩ := chain_room _ _ _ 0 (room_of (good_of hg) hr) g1 c1 (by omega) (by omega)
  rw [c2]
  exact ⟨a1.good (by omega), a3, hl⟩
end Go.Proofs.Ytmkboljfbmlebaa
/- Queues that are drawn from the front, passes of a sweep, and the order of the payments as a comparison. No condition. -/
namespace Go.Proofs.Ytmkboljfbmlebaa
open Go.RowKit
set_option linter.unusedSimpArgs false
set_option linter.unusedVariables false

theorem settleP_at {ps : List PayS} {i : Int} {p : PayS} (h : settles ps i = some p) (j : Nat) : (settleP ps i)[j]? = if j = i.toNat then some { p with sta := 2 } else ps[j]? := by
  obtain ⟨h0, hp, h1⟩ := settles_spec h
  have hlt := (List.getElem?_eq_some_iff.1 hp).1
  simp only [settleP, h]
  rw [List.getElem?_set]
  by_cases hj : j = i.toNat
  · subst hj; simp [hlt]
  · rw [if_neg (Ne.symm hj), if_neg hj]
/-- settling turns nothing but the state -/
theorem settleP_old {ps : List PayS} {i : Int} {j : Nat} {q : PayS} (h : (settleP ps i)[j]? = some q) : ∃ p, ps[j]? = some p ∧ p.seq = q.seq ∧ p.cls = q.cls := by
  cases hs : settles ps i with
  | none => simp only [settleP, hs] at h; exact ⟨q, h, rfl, rfl⟩
  | some p =>
    rw [settleP_at hs] at h
    split at h
    · rename_i e
      subst e
      simp at h; subst h
      exact ⟨p, (settles_spec hs).2.1, rfl, rfl⟩
    · exact ⟨q, h, rfl, rfl⟩
theorem settleP_new {ps : List PayS} {i : Int} {j : Nat} {p : PayS} (h : ps[j]? = some p) : ∃ q, (settleP ps i)[j]? = some q ∧ p.seq = q.seq ∧ p.cls = q.cls := by
  have hlt := (List.getElem?_eq_some_iff.1 h).1
  obtain ⟨q, hq⟩ : ∃ q, (settleP ps i)[j]? = some q := ⟨(settleP ps i)[j]'(by rw [settleP_len]; exact hlt), by simp⟩
  obtain ⟨p', hp', e⟩ := settleP_old hq
  rw [h] at hp'; simp at hp'; subst hp'
  exact ⟨q, hq, e⟩
theorem SeqsApart.settle {ps : List PayS} (hs : SeqsApart ps) (n : Int) : SeqsApart (settleP ps n) := by
  intro i j p q hp hq e
  obtain ⟨p', hp', e1, _⟩ := settleP_old hp
  obtain ⟨q', hq', e2, _⟩ := settleP_old hq
  exact hs i j p' q' hp' hq' (by omega)
theorem lessK_settle {ps : List PayS} {n a b : Int} (h : lessK ps a b) : lessK (settleP ps n) a b := by
  obtain ⟨p, q, hp, hq, hl⟩ := h
  obtain ⟨p', hp', e1, e2⟩ := settleP_new (i := n) hp
  obtain ⟨q', hq', e3, e4⟩ := settleP_new (i := n) hq
  exact ⟨p', q', hp', hq', by unfold payLt at *; omega⟩
theorem queueM_nodup (ps : List PayS) (bank : Int) : (queueM ps bank).Nodup := (queueTo_spec ps bank ps.length).nodup
/-- behind its first one, a queue is what it was -/
theorem queue_tail {ps : List PayS} {bank i : Int} {r : List Int} (hs : SeqsApart ps) (hq : queueM ps bank = i :: r) : queueM (settleP ps i) bank = r := by
  have hn := queueM_nodup ps bank
  rw [hq] at hn
  obtain ⟨hn1, hn2⟩ := List.nodup_cons.1 hn
  obtain ⟨p, hst, hpi, hsta, hsrc⟩ := (queueM_mine (show i ∈ queueM ps bank by rw [hq]; simp)).settles
  have hi0 := (settles_spec hst).1
  have hso := queueM_sorted hs bank
  rw [hq] at hso
  refine (queueM_unique hn2 (fun j => ⟨fun hj => ?_, fun hj => ?_⟩) ((List.pairwise_cons.1 hso).2.imp fun h => lessK_settle h) (hs.settle i)).symm
  · obtain ⟨j0, q, h1, h2, h3⟩ := queueM_mine (show j ∈ queueM ps bank by rw [hq]; exact List.mem_cons_of_mem _ hj)
    have hne : j.toNat ≠ i.toNat := fun e => hn1 (by have : j = i := by omega
                                                     rw [← this]; exact hj)
    exact ⟨j0, q, by rw [settleP_at hst, if_neg hne]; exact h1, h2, h3⟩
  · obtain ⟨j0, q, h1, h2, h3⟩ := hj
    rw [settleP_at hst] at h1
    split at h1
    · simp at h1; subst h1; simp at h2
    · rename_i hne
      have : j ∈ queueM ps bank := queueM_all ⟨j0, q, h1, h2, h3⟩
      rw [hq] at this
      rcases List.mem_cons.1 this with e | h
      · exact absurd (by rw [e]) hne
      · exact h

/-! what was settled ahead of it does not matter to a bank -/
theorem drain_xs (bank : Int) : ∀ (m : Nat) (c : H) (ps : List PayS) (ys xs : List Int), cnt ps = m → drain bank ⟨c, ps, ys ++ xs⟩ = ⟨(drain bank ⟨c, ps, xs⟩).c, (drain bank ⟨c, ps, xs⟩).ps, ys ++ (drain bank ⟨c, ps, xs⟩).xs⟩ := by
  intro m
  induction m using Nat.strongRecOn with
  | _ m ih =>
    intro c ps ys xs hm
    cases h : firstM c ps bank with
    | none => rw [drain_end (s := ⟨c, ps, ys ++ xs⟩) h, drain_end (s := ⟨c, ps, xs⟩) h]
    | some i =>
      rw [drain_go (s := ⟨c, ps, ys ++ xs⟩) h, drain_go (s := ⟨c, ps, xs⟩) h]
      obtain ⟨p, r, _, h1, _⟩ := firstM_spec h
      have hc := cnt_settle h1
      have := ih (cnt (settleP ps i)) (by omega) (settleC c ps i) (settleP ps i) ys (xs ++ [i]) rfl
      simp only [QS.go]
      rw [List.append_assoc]
      exact this
theorem drain_app (bank : Int) (c : H) (ps : List PayS) (ys : List Int) : drain bank ⟨c, ps, ys⟩ = ⟨(drain bank ⟨c, ps, []⟩).c, (drain bank ⟨c, ps, []⟩).ps, ys ++ (drain bank ⟨c, ps, []⟩).xs⟩ := by
  have := drain_xs bank _ c ps ys [] rfl
  rwa [List.append_nil] at this
theorem drain_keeps (bank : Int) : ∀ (m : Nat) (s : QS), cnt s.ps = m → SeqsApart s.ps → SeqsApart (drain bank s).ps ∧ (drain bank s).ps.length = s.ps.length := by
  intro m
  induction m using Nat.strongRecOn with
  | _ m ih =>
    intro s hm hs
    cases h : firstM s.c s.ps bank with
    | none => rw [drain_end h]; exact ⟨hs, rfl⟩
    | some i =>
      rw [drain_go h]
      obtain ⟨p, r, _, h1, _⟩ := firstM_spec h
      have hc := cnt_settle h1
      obtain ⟨e1, e2⟩ := ih (cnt (settleP s.ps i)) (by omega) (s.go i) rfl (hs.settle i)
      exact ⟨e1, e2.trans (settleP_len _ _)⟩
theorem chainP_seqs : ∀ (r : List Int) (ps : List PayS), SeqsApart ps → SeqsApart (chainP ps r)
  | [], _, h => h
  | i :: r, ps, h => chainP_seqs r _ (h.settle i)
theorem sweepM_seqs {c : H} {ps : List PayS} (hs : SeqsApart ps) : SeqsApart (sweepM c ps).ps := by
  cases hg : goodB c ps
  · simp only [sweepM, hg, cond_false]; exact hs
  · rw [(sweepM_goes hg).2.2]; exact chainP_seqs _ _ hs

/-! the sweep, pass by pass: one more bank, whether it can do something or not -/
theorem pass_step {c : H} {ps : List PayS} (hg : goodB c ps = true) {k idle : Nat} {s : QS} (hk : k < 4) (hi : idle ≤ 4) (hs : sweepFrom k idle s = sweepM c ps) :
    ∃ idle', idle' ≤ 4 ∧ sweepFrom ((k + 1) % 4) idle' (drain k s) = sweepM c ps ∧ ((drain k s).xs.length = s.xs.length → idle' = 4 ∨ idle' = idle + 1) := by
  by_cases h4 : idle < 4
  · by_cases hx : (drain k s).xs.length = s.xs.length
    · exact ⟨idle + 1, by omega, by rw [← hs, sweep_idle h4 rfl hx], fun _ => .inr rfl⟩
    · exact ⟨0, by omega, by rw [← hs, sweep_busy h4 rfl hx], fun h => absurd h hx⟩
  · rw [sweep_end h4] at hs
    have hr := sweepM_rests hg k hk
    rw [← hs] at hr
    refine ⟨4, by omega, ?_, fun _ => .inl rfl⟩
    rw [drain_end hr, sweep_end (by omega)]
    exact hs

/-! the order of two payments as a number -/
def cmpI (a b : Int) : Int := bif decide (a < b) then -1 else bif decide (b < a) then 1 else 0
def cmpP (p q : PayS) : Int := bif decide (cmpI p.cls q.cls = 0) then cmpI p.seq q.seq else cmpI p.cls q.cls
theorem cmpI_neg (a b : Int) : cmpI a b < 0 ↔ a < b := by
  unfold cmpI
  by_cases h1 : a < b
  · simp [h1]
  · by_cases h2 : b < a <;> simp [h1, h2]
theorem cmpI_zero (a b : Int) : cmpI a b = 0 ↔ a = b := by
  unfold cmpI
  by_cases h1 : a < b
  · simp [h1]; omega
  · by_cases h2 : b < a
    · simp [h1, h2]; omega
    · simp [h1, h2]; omega
theorem cmpP_neg (p q : PayS) : cmpP p q < 0 ↔ payLt p q := by
  unfold cmpP payLt
  by_cases h : cmpI p.cls q.cls = 0
  · have := (cmpI_zero _ _).1 h
    simp only [h, decide_true, cond_true, cmpI_neg]; omega
  · have h' : ¬ p.cls = q.cls := fun e => h ((cmpI_zero _ _).2 e)
    simp only [h, decide_false, cond_false, cmpI_neg]; omega
theorem cmpI_range (a b : Int) : -1 ≤ cmpI a b ∧ cmpI a b ≤ 1 := by
  unfold cmpI
  cases decide (a < b) <;> cases decide (b < a) <;> simp

/-! the payments of a bank that wait, in the order of their places -/
def waitTo (ps : List PayS) (bank : Int) : Nat → List Int
  | 0 => []
  | k + 1 => match ps[k]? with
    | some p => bif decide (p.src = bank) && decide (p.sta = 1) then waitTo ps bank k ++ [(k : Int)] else waitTo ps bank k
    | none => waitTo ps bank k
theorem wait_step {ps : List PayS} {bank : Int} {k : Nat} {p : PayS} (h : ps[k]? = some p) : waitTo ps bank (k + 1) = bif decide (p.src = bank) && decide (p.sta = 1) then waitTo ps bank k ++ [(k : Int)] else waitTo ps bank k := by
  simp only [waitTo, h]
theorem wait_len (ps : List PayS) (bank : Int) : ∀ k, (waitTo ps bank k).length ≤ k
  | 0 => by simp [waitTo]
  | k + 1 => by
    have := wait_len ps bank k
    unfold waitTo
    split
    · rename_i p _
      cases decide (p.src = bank) && decide (p.sta = 1)
      · simp only [cond_false]; omega
      · simp only [cond_true, List.length_append, List.length_cons, List.length_nil]; omega
    · omega
theorem wait_spec (ps : List PayS) (bank : Int) : ∀ k, (waitTo ps bank k).Nodup ∧ ∀ i, i ∈ waitTo ps bank k ↔ Mine ps bank i ∧ i < k
  | 0 => ⟨by simp [waitTo], fun i => ⟨fun h => by simp [waitTo] at h, fun ⟨h1, h2⟩ => by have := h1.1; omega⟩⟩
  | k + 1 => by
    obtain ⟨h1, h2⟩ := wait_spec ps bank k
    have hno : ∀ i, (∀ p, ps[k]? = some p → ¬ (p.src = bank ∧ p.sta = 1)) → ((Mine ps bank i ∧ i < k) ↔ (Mine ps bank i ∧ i < ((k + 1 : Nat) : Int))) := fun i hn =>
      ⟨fun ⟨a, b⟩ => ⟨a, by omega⟩, fun ⟨a, b⟩ => ⟨a, by
        obtain ⟨i0, p, hp, h3, h4⟩ := a
        rcases Int.lt_or_le i k with h | h
        · exact h
        · have e : i.toNat = k := by omega
          rw [e] at hp
          exact absurd ⟨h4, h3⟩ (hn p hp)⟩⟩
    cases hp : ps[k]? with
    | none =>
      have e : waitTo ps bank (k + 1) = waitTo ps bank k := by simp only [waitTo, hp]
      rw [e]
      exact ⟨h1, fun i => (h2 i).trans (hno i (fun p h => by rw [hp] at h; cases h))⟩
    | some p =>
      rw [wait_step hp]
      cases hc : decide (p.src = bank) && decide (p.sta = 1)
      · simp only [cond_false]
        refine ⟨h1, fun i => (h2 i).trans (hno i (fun q h => ?_))⟩
        rw [hp] at h; simp at h; subst h
        simpa using hc
      · simp only [cond_true]
        simp at hc
        refine ⟨?_, fun i => ?_⟩
        · rw [List.nodup_append]
          refine ⟨h1, by simp, fun a ha b hb e => ?_⟩
          simp at hb; subst hb; subst e
          have := ((h2 _).1 ha).2
          omega
        · rw [List.mem_append, h2]
          constructor
          · rintro (⟨a, b⟩ | h)
            · exact ⟨a, by omega⟩
            · simp at h; subst h
              exact ⟨⟨by omega, p, by simpa using hp, hc.2, hc.1⟩, by omega⟩
          · rintro ⟨a, b⟩
            by_cases e : i = k
            · exact .inr (by simp [e])
            · exact .inl ⟨a, by omega⟩
theorem wait_all (ps : List PayS) (bank : Int) (i : Int) : i ∈ waitTo ps bank ps.length ↔ Mine ps bank i := by
  rw [(wait_spec ps bank ps.length).2]
  exact ⟨fun h => h.1, fun h => ⟨h, by have := h.lt; omega⟩⟩
/-- sorted, they are the queue -/
theorem sorted_queue {ps : List PayS} {bank : Int} {xs : List Int} (hs : SeqsApart ps) (hp : xs.Perm (waitTo ps bank ps.length)) (ho : xs.Pairwise fun i j => ¬ lessK ps j i) : xs = queueM ps bank := by
  have hn : xs.Nodup := hp.nodup_iff.2 (wait_spec ps bank ps.length).1
  have hm : ∀ i, i ∈ xs ↔ Mine ps bank i := fun i => (hp.mem_iff).trans (wait_all ps bank i)
  refine queueM_unique hn hm ?_ hs
  have h1 : xs.Pairwise fun i j => i ≠ j ∧ ¬ lessK ps j i := List.Pairwise.and hn ho
  exact List.Pairwise.imp_of_mem (fun {a b} ha hb hab => lessK_total hs ((hm a).1 ha) ((hm b).1 hb) hab.1 hab.2) h1
theorem wait_none {ps : List PayS} {bank : Int} (h : ¬ (0 ≤ bank ∧ bank < 4)) (hg : GoodPs ps) : queueM ps bank = [] := by
  cases hq : queueM ps bank with
  | nil => rfl
  | cons i r =>
    obtain ⟨_, p, hp, _, h2⟩ := queueM_mine (show i ∈ queueM ps bank by rw [hq]; simp)
    have := hg p (List.mem_of_getElem? hp)
    have ht := pay_transfer this
    exfalso
    apply h
    subst h2
    exact (transfer_lt ht).1
end Go.Proofs.Ytmkboljfbmlebaa
/- Functions as values, a slice held against nil, an empty list, payments copied onto it, and many numbers set behind a list. No condition. -/
namespace Go.Proofs.Ytmkboljfbmlebaa
open Go.RowKit
set_option linter.unusedSimpArgs false
set_option linter.unusedVariables false

/-- a call that only reads ends some draws and some blocks further -/
theorem Bel.grown {w w' : World} (h : Bel w.heap.size w w') : ∃ q os, w' = Sort.grow (w.drewN q) os := by
  refine ⟨w'.drawn - w.drawn, w'.heap.extract w.heap.size w'.heap.size, ?_⟩
  have e1 : w.drawn + (w'.drawn - w.drawn) = w'.drawn := by have := h.drawn; omega
  have e2 : w.heap ++ w'.heap.extract w.heap.size w'.heap.size = w'.heap := by
    apply Array.ext_getElem?
    intro k
    rcases Nat.lt_or_ge k w.heap.size with hk | hk
    · rw [Array.getElem?_append_left hk]; exact (h.block k hk).symm
    · rw [Array.getElem?_append_right hk, Array.getElem?_extract]
      split
      · congr 1; omega
      · rw [Array.getElem?_eq_none (by omega)]
  have e3 := h.os
  have e4 := h.tape
  have e5 := h.output
  cases w
  cases w'
  simp only [Sort.grow, World.drewN] at *
  subst e3 e4 e5
  rw [e1, e2]
theorem grow_bel (w : World) (q : Nat) (os : Array Obj) : Bel w.heap.size w (Sort.grow (w.drewN q) os) :=
  ⟨⟨rfl, rfl, rfl, by simp [Sort.grow, World.drewN], fun k hk => by
    show (w.heap ++ os)[k]? = w.heap[k]?
    rw [Array.getElem?_append_left hk]⟩, Nat.le_add_right _ _⟩

section
variable {P : Program} {f : Nat → Value} {C : World → Prop} {dst : Option Nat} {ty : TypeId} {pos : String} {af : Array Edge} {gd : Option (Nat × Bool)}
theorem v_makeFunc {fn : Fn} {xs : List Operand} {vs : List Value} (hx : xs.map (ev f) = vs) : Val P f C ⟨dst, .makeFunc fn #[] xs.toArray, ty, pos, af, gd⟩ (.func fn #[] vs.toArray) :=
  ⟨fun w _ => by simp [execOp, Instr.makeFunc, hx]⟩
theorem v_eqNil {x y : Operand} {T t' m : Nat} {a : Option Addr} {len cap : Nat} (hT : slB P T m = true) (hx : ev f x = .slice a len cap) (hy : ev f y = .slice none 0 0) : Val P f C ⟨dst, .binOp .eql T x y t', ty, pos, af, gd⟩ (.bool a.isNone) := by
  refine ⟨fun w _ => ?_⟩
  unfold slB at hT
  split at hT
  · rename_i e hu
    have hg : (eqGuard .eql T x y (.slice a len cap) (.slice none 0 0)).run P w = .ok () w := by
      simp [eqGuard]
    have he : (Op.equal T (.slice a len cap) (.slice none 0 0)).run P w = .ok a.isNone w := by
      unfold Op.equal
      show (Op.equalIn (_ + 1) T _ _).run P w = _
      unfold Op.equalIn
      simp only [Sem.run_bind]
      rw [run_underlying hu]
      cases a <;> simp
    simp [execOp, hx, hy, hg, binOp, he]
  · cases hT
variable {ops : Array Oper} {K : (Nat → Value) → World → Prop} {rest : List Oper} {d : Nat} {w0 : World} {F : Addr → Value → Prop} {E L : List (Nat × Obj)}
/-- a list of nothing, in a block of its own -/
theorem s_build0 {T e m by_ : Nat} (hT : rowB P T e m by_ = true) (kk : ∀ b, sC P ops K rest (upd f d (.slice (some ⟨b, 0, none⟩) 0 0)) (Has w0 F ((b, .cells #[] e) :: L))) :
    sC P ops K (⟨some d, .buildSlice T 0 #[], ty, pos, af, none⟩ :: rest) f (Has w0 F L) := by
  intro w hw
  obtain ⟨i, z, hu, hi, h1, h2, h3, h4⟩ := rowB_spec hT
  have : (Instr.buildSlice T 0 #[]).run P w = .ok (.slice (some ⟨w.heap.size, 0, none⟩) 0 0) (w.alloc (.cells #[] e)) := by
    simp [Instr.buildSlice, run_underlying hu, sizeOf, typeInfo, zeroValue, hi, h3, newRow, Instr.fill, show Array.range 0 = (#[] : Array Nat) from rfl]
  unfold sw
  rw [if_pos wanted_free]
  unfold opk
  have hr : (execOp (ev f) ⟨some d, .buildSlice T 0 #[], ty, pos, af, none⟩).run P w = .ok (.value (.slice (some ⟨w.heap.size, 0, none⟩) 0 0)) (w.alloc (.cells #[] e)) := by
    simp [execOp, this]
  rw [hr]
  exact kk _ _ (hw.alloc _)
theorem run_appendCopy0 {w : World} {T ty : TypeId} {g b o pl pc : Nat} {ps : List PayS} (hT : paySliceB P T = true) (hpos : 0 < pl) (hb : pl * 48 ≤ 281474976710656) (hl : ps.length = pl)
    (hc : ∀ (j : Nat) (p : PayS), ps[j]? = some p → ∀ (k : Nat) (v : Value), p.cells[k]? = some v → w.cell? ⟨b, o + j * 6 + k, none⟩ = some v) :
    ∃ (c : Nat) (cs : Array Value), pl ≤ c ∧ cs.size = c * 6 ∧ (∀ (i : Nat) (v : Value), (flatC ps)[i]? = some v → cs[i]? = some v) ∧ (Builtin.append_ #[T, T] ty #[.slice (some ⟨g, 0, none⟩) 0 0, .slice (some ⟨b, o, none⟩) pl pc]).run P w = .ok (.slice (some ⟨w.heap.size, 0, none⟩) pl c) (w.drew.alloc (.cells cs (payElem P T))) := by
  obtain ⟨i, z, hu, hs, hi, hby, hz, hzs⟩ := paySliceB_spec hT
  have hsz : ∀ w, (sizeOf (payElem P T)).run P w = .ok 6 w := fun w => sizeB_run hs
  have hld := load_pays (P := P) (w := w.drew) (b := b) (o := o) hl (fun j p hj k v hv => by simpa using hc j p hj k v hv)
  have hld0 : ∀ w : World, (loadCells ⟨g, 0, none⟩ (0 * 6)).run P w = .ok #[] w := fun w => by simp [loadCells, loadCellsFrom]
  have hcap : Builtin.nextslicecap pl 0 = pl := by unfold Builtin.nextslicecap; rw [if_pos (by omega)]
  have hask : ∀ n w, (askRoom n).run P w = .ok () w := by intro n w; unfold askRoom; split <;> rfl
  have hch : (choose (.appendCap pl 0 (payElem P T))).run P w = .ok (pl + w.tape w.drawn (.appendCap pl 0 (payElem P T)) % (2 ^ 63 - pl)) w.drew := by
    unfold choose
    simp only [Sem.run, Question.forced, Question.cut, Bool.false_eq_true, if_false]
    rfl
  generalize hcc : pl + w.tape w.drawn (.appendCap pl 0 (payElem P T)) % (2 ^ 63 - pl) = c at hch
  refine ⟨c, (flatC ps).toArray ++ Builtin.zeroCells z (c - pl), by omega, ?_, ?_, ?_⟩
  · have : (Builtin.zeroCells z (c - pl)).size = (c - pl) * 6 := by simp [Builtin.zeroCells, hzs]
    rw [Array.size_append, this]
    simp [flatC_length, hl]
    omega
  · intro j v hv
    rw [Array.getElem?_append_left (by simpa using (List.getElem?_eq_some_iff.1 hv).1)]
    simpa using hv
  · have hn : ¬ pl ≤ 0 := by omega
    have hlt : ¬ 2 ^ 48 < pl * 48 := by omega
    have hov : ¬ (IntKind.i64.max < (pl : Int) ∧ i.bytes = 0) := by rw [hby]; simp
    have hzv : (zeroValue (payElem P T)).run P w.drew = .ok (.agg z) w.drew := by simp [zeroValue, typeInfo, hi, hz]
    have hnew : ∀ (o : Obj) (w : World), Sem.run P (Sem.new o Sem.pure) w = .ok w.heap.size (w.alloc o) := fun _ _ => rfl
    have h0 : pl ≠ 0 := by omega
    have hn48 : ¬ 281474976710656 < pl * 48 := by omega
    simp only [Builtin.append_, Sem.run_bind, Sem.run_pure, Result.andThen_ok]
    simp [underlying, hu, hsz, Builtin.lenOf, h0, typeInfo, hi, hby, hcap, hn48, hch, hask, Builtin.firstCells, hld, hzv, Value.cells, newRow, newObj, hnew, loadCells, loadCellsFrom]
    have hcut : (Question.appendCap pl 0 (payElem P T)).cut (w.tape w.drawn (.appendCap pl 0 (payElem P T))) = c := hcc
    rw [if_neg (show ¬ (Question.appendCap pl 0 (payElem P T)).forced = true from Bool.false_ne_true), hcut]
    simp only [loadCells] at hld
    simp [hld, hzv, Value.cells]
/-- payments are set behind a list of nothing: they are copied -/
theorem s_appendCopy0 {T : TypeId} {x y : Operand} {ats : Array TypeId} {g : Nat} {pa : Option Addr} {pl pc : Nat} {ps : List PayS} (hT : paySliceB P T = true) (hat : ats = #[T, T]) (hx : ev f x = .slice (some ⟨g, 0, none⟩) 0 0) (hy : ev f y = .slice pa pl pc) (hp : PaysIn F pa pl ps) (hb : pl * 48 ≤ 281474976710656) (h0 : 0 < pl)
    (k1 : ∀ (b c : Nat) (cs : Array Value), pl ≤ c → cs.size = c * 6 → CellsOf cs ps → sC P ops K rest (upd f d (.slice (some ⟨b, 0, none⟩) pl c)) (Has w0 F ((b, .cells cs (payElem P T)) :: L))) :
    sC P ops K (⟨some d, .call ⟨.builtin .append, #[x, y], ats⟩, ty, pos, af, none⟩ :: rest) f (Has w0 F L) := by
  intro w hw
  unfold sw
  rw [if_pos wanted_free]
  unfold opk
  subst hat
  rcases hp.2 with h | ⟨b, o, rfl, hc⟩
  · exact absurd h (by omega)
  · obtain ⟨c, cs, h1, h2, h3, h4⟩ := run_appendCopy0 (P := P) (w := w) (T := T) (ty := ty) (g := g) (b := b) (o := o) (pl := pl) (pc := pc) hT h0 hb hp.1 (fun j p hj k v hv => hw.at _ _ (hc j p hj k v hv))
    have hr : (execOp (ev f) ⟨some d, .call ⟨.builtin .append, #[x, y], #[T, T]⟩, ty, pos, af, none⟩).run P w = .ok (.value (.slice (some ⟨w.heap.size, 0, none⟩) pl c)) (w.drew.alloc (.cells cs (payElem P T))) := by
      simp [execOp, resolve, invoke, builtin, hx, hy, h4]
    rw [hr]
    exact k1 _ c cs h1 h2 (fun j p hj k v hv => h3 _ _ (flatC_get ps j p hj k v hv)) _ (hw.drew.alloc _)
/-- numbers that stand in memory are set behind a list of the call's own -/
theorem s_pushAll {T e by_ n c : Nat} {ats : Array TypeId} {x y : Operand} {v : Value} {xs : List Value} {a : Option Addr} {ys : List Int} (hT : rowB P T e 1 by_ = true) (hbb : Nat.ble 1 by_ = true) (hat : ats = #[T, T])
    (hx : ev f x = v) (hy : ev f y = .slice a ys.length c) (hE : ListE e 1 v n xs E) (hi : IntsAt F a ys) (hbytes : (n + ys.length) * by_ ≤ 140737488355328)
    (kk : ∀ v' E', ListE e 1 v' (n + ys.length) (xs ++ ys.map I) E' → sC P ops K rest (upd f d v') (Has w0 F (E' ++ L))) :
    sC P ops K (⟨some d, .call ⟨.builtin .append, #[x, y], ats⟩, ty, pos, af, none⟩ :: rest) f (Has w0 F (E ++ L)) := by
  intro w hw
  subst hat
  unfold sw
  rw [if_pos wanted_free]
  unfold opk
  have hrun : ∀ v' w', (Builtin.append_ #[T, T] ty #[v, .slice a ys.length c]).run P w = .ok v' w' → (execOp (ev f) ⟨some d, .call ⟨.builtin .append, #[x, y], #[T, T]⟩, ty, pos, af, none⟩).run P w = .ok (.value v') w' := by
    intro v' w' hr
    simp [execOp, resolve, invoke, builtin, hx, hy, hr]
  cases ys with
  | nil =>
    obtain ⟨i, z, hu, hii, hs, hby, hz, hzs⟩ := rowB_spec hT
    have hsz : ∀ w, (sizeOf e).run P w = .ok 1 w := fun w => by simp [sizeOf, typeInfo, hii, hs]
    have : (Builtin.append_ #[T, T] ty #[v, .slice a 0 c]).run P w = .ok v w := by
      rcases hE.2 with ⟨rfl, rfl, rfl⟩ | ⟨g, cap, cur, rfl, rfl, hnc, hcm, hcs, htake⟩
      · cases a <;> simp [Builtin.append_, underlying, hu, hsz, Builtin.lenOf, Builtin.firstCells, loadCells, loadCellsFrom]
      · cases a <;> simp [Builtin.append_, underlying, hu, hsz, Builtin.lenOf, Builtin.firstCells, loadCells, loadCellsFrom, hnc, storeCells]
    rw [hrun _ _ this]
    exact kk v E (by simpa using hE) w hw
  | cons y0 r =>
    obtain ⟨b, o, rfl, hF⟩ := hi.resolve_left (by simp)
    obtain ⟨v', E', w', hr, hE', hw'⟩ := run_appendE (P := P) (w0 := w0) (F := F) (L := L) (c := c) (ty := ty) (b := b) (o := o) (mm := (y0 :: r).length) (news := (y0 :: r).map I) hT (by decide) hE hw (by simp) (fun j u hj => by
      rw [List.getElem?_map] at hj
      cases hy' : (y0 :: r)[j]? with
      | none => rw [hy'] at hj; cases hj
      | some q =>
        rw [hy'] at hj
        simp only [Option.map_some, Option.some.injEq] at hj
        subst hj
        exact hw.at _ _ (hF j q hy')) (fun u hu => by
      obtain ⟨q, _, rfl⟩ := List.mem_map.1 hu
      rfl) (by simp) hbytes (Nat.le_of_ble_eq_true hbb)
    rw [hrun _ _ hr]
    exact kk v' E' hE' w' hw'
end
end Go.Proofs.Ytmkboljfbmlebaa
/- Houses not far beyond their bounds: what may be sent is asked alike on both sides. No condition. -/
namespace Go.Proofs.Ytmkboljfbmlebaa
open Go.RowKit
set_option linter.unusedSimpArgs false
set_option linter.unusedVariables false

structure NearG (k : Int) (h : H) : Prop where
  near : Near k h
  cred : ∀ i : Int, 0 ≤ i ∧ i < 4 → 0 ≤ h.cred i ∧ h.cred i ≤ 1000000
  lim : ∀ i j : Int, 0 ≤ i ∧ i < 4 → 0 ≤ j ∧ j < 4 → -1 ≤ h.lim i j ∧ h.lim i j ≤ 1000000
theorem GoodH.nearG {h : H} (g : GoodH h) : NearG 0 h := ⟨g.near, g.cred, g.lim⟩
theorem NearG.core {k : Int} {h : H} (g : NearG k h) : NearG k h.core := ⟨⟨g.near.has, g.near.sent⟩, g.cred, g.lim⟩
theorem NearG.ofCore {k : Int} {h : H} (g : NearG k h.core) : NearG k h := ⟨⟨g.near.has, g.near.sent⟩, g.cred, g.lim⟩
theorem NearG.mono {k k' : Int} {h : H} (g : NearG k h) (hk : k ≤ k') : NearG k' h :=
  ⟨⟨fun i hi => by have := g.near.has i hi; omega, fun i j hi hj => by have := g.near.sent i j hi hj; omega⟩, g.cred, g.lim⟩
theorem may_near {h : H} {k : Int} (g : NearG k h) (hk : k ≤ 1000000) (a b n : Int) : mayM h a b n = maySendM h a b n := by
  unfold mayM maySendM
  cases ht : goodTransferB a b n
  · rfl
  · obtain ⟨ha, hb, hne, h1, h2⟩ := transfer_spec ht
    have e1 := g.near.has a ha
    have e2 := g.cred a ha
    have e3 := g.near.sent a b ha hb
    have e4 := g.near.sent b a hb ha
    have e5 := g.lim a b ha hb
    have l : leftM h a = h.has a + h.cred a := by
      unfold leftM
      rw [isBank_of ha]
      simp only [Bool.not_true, Bool.false_eq_true, if_false]
      exact wr_in (by omega) (by omega)
    have nn : netM h a b = h.sent a b - h.sent b a := by
      unfold netM
      rw [isBank_of ha, isBank_of hb]
      simp only [Bool.not_true, Bool.or_self, Bool.false_eq_true, if_false]
      exact wr_in (by omega) (by omega)
    rw [l, nn, wr_in (a := h.has a - n) (by omega) (by omega), wr_in (a := 0 - h.cred a) (by omega) (by omega), wr_in (a := h.sent a b - h.sent b a) (by omega) (by omega)]
    have d1 : decide (h.has a + h.cred a < n) = decide (h.has a - n < 0 - h.cred a) := by rw [Bool.eq_iff_iff]; simp; omega
    have d2 : decide (h.lim a b = -1) = decide (h.lim a b ≤ -1) := by rw [Bool.eq_iff_iff]; simp; omega
    rw [d1, d2]
theorem NearG.move {k : Int} {h : H} (g : NearG k h) (h0 : 0 ≤ k) (hk : k ≤ 1000000) {a b n : Int} (ht : goodTransferB a b n = true) : NearG (k + 1) (moveM h a b n) := by
  obtain ⟨ha, hb, hne, h1, h2⟩ := transfer_spec ht
  rw [move_at g.near hk ht]
  refine ⟨⟨fun i hi => ?_, fun i j hi hj => ?_⟩, g.cred, g.lim⟩
  · have e1 := g.near.has i hi
    have e2 := g.near.has a ha
    have e3 := g.near.has b hb
    simp only [up1]
    split
    · omega
    · split <;> omega
  · have e1 := g.near.sent i j hi hj
    have e2 := g.near.sent a b ha hb
    simp only [up2]
    split <;> omega
theorem NearG.settle {k : Int} {c : H} {ps : List PayS} (g : NearG k c) (h0 : 0 ≤ k) (hk : k ≤ 1000000) (hg : GoodPs ps) (n : Int) : NearG (k + 1) (settleC c ps n) := by
  unfold settleC
  split
  · rename_i p hs
    exact g.move h0 hk (pay_transfer (hg p (List.mem_of_getElem? (settles_spec hs).2.1)))
  · exact g.mono (by omega)
theorem drain_near (bank : Int) : ∀ (m : Nat) (s : QS) (k : Int), cnt s.ps = m → GoodPs s.ps → NearG k s.c → 0 ≤ k → k + m ≤ 1000000 → NearG (k + m - cnt (drain bank s).ps) (drain bank s).c ∧ GoodPs (drain bank s).ps := by
  intro m
  induction m using Nat.strongRecOn with
  | _ m ih =>
    intro s k hm hg hn h0 hk
    cases h : firstM s.c s.ps bank with
    | none => rw [drain_end h, hm]; exact ⟨hn.mono (by omega), hg⟩
    | some i =>
      rw [drain_go h]
      obtain ⟨p, r, _, h1, _⟩ := firstM_spec h
      have hc := cnt_settle h1
      have := ih (cnt (settleP s.ps i)) (by omega) (s.go i) (k + 1) rfl (settleP_good hg i) (hn.settle h0 (by omega) hg i) (by omega) (by omega)
      refine ⟨this.1.mono ?_, this.2⟩
      omega
end Go.Proofs.Ytmkboljfbmlebaa
/- The program's own sweep: what holds at each turn of one bank, and of one pass. No condition. -/
namespace Go.Proofs.Ytmkboljfbmlebaa
open Go.RowKit
set_option linter.unusedSimpArgs false
set_option linter.unusedVariables false

theorem c_weak {P : Program} {n : Nat} {y : Code} {Q : Exit → (Nat → Value) → World → Prop} {f : Nat → Value} {C C' : World → Prop} (hc : ∀ w, C w → C' w) (h : cC P n y Q f C') : cC P n y Q f C := fun w hw => h w (hc w hw)
theorem IntsAt.take {F : Addr → Value → Prop} {a : Option Addr} {xs : List Int} (h : IntsAt F a xs) (k : Nat) : IntsAt F a (xs.take k) := by
  rcases h with rfl | ⟨b, o, h1, h2⟩
  · exact .inl (by simp)
  · refine .inr ⟨b, o, h1, fun j x hj => h2 j x ?_⟩
    rw [List.getElem?_take] at hj
    split at hj
    · exact hj
    · cases hj
/-- a list of numbers, its room no less than its length -/
def IntsRoom (xs : List Int) : (Addr → Value → Prop) → Value → Prop := fun F v => ∃ a c, v = .slice a xs.length c ∧ xs.length ≤ c ∧ IntsAt F a xs
theorem room_mono (xs : List Int) : Mono (IntsRoom xs) := by
  rintro F F' v hm ⟨a, c, h1, h2, h3⟩
  exact ⟨a, c, h1, h2, h3.mono hm⟩
theorem room_of_list {F : Addr → Value → Prop} {e : Nat} {v : Value} {xs : List Int} {E : List (Nat × Obj)} (h : ListE e 1 v xs.length (xs.map I) E) (hk : Knows F E) : IntsRoom xs F v := by
  obtain ⟨a, c, hv, hi⟩ := (ints_of_list h hk).at
  refine ⟨a, c, hv, ?_, hi⟩
  rcases h.2 with ⟨rfl, h2, rfl⟩ | ⟨g, cap, cur, rfl, rfl, h3, h4, h5, h6⟩
  · omega
  · simp at hv; omega
structure SbG where
  F : Addr → Value → Prop
  h : H
  ps : List PayS
  k : Nat
structure SbOk (w : World) (F0 : Addr → Value → Prop) (h0 : H) (ps0 : List PayS) (bank : Int) (nr : Int) (t : SbG) : Prop where
  more : More F0 t.F
  pays : PaysIn t.F t.h.pa t.h.pl t.ps
  out : (t.h.pa = h0.pa ∧ t.h.pl = h0.pl ∧ t.ps = ps0) ∨ PaysIn (Young w t.F) t.h.pa t.h.pl t.ps
  len : t.h.pl = h0.pl
  lc : t.h.pl ≤ t.h.pc
  seqs : SeqsApart t.ps
  good : GoodPs t.ps
  near : NearG (nr + t.k) t.h.core
  kl : t.k ≤ (queueM ps0 bank).length
  queue : queueM t.ps bank = (queueM ps0 bank).drop t.k
  goes : drain bank ⟨t.h.core, t.ps, (queueM ps0 bank).take t.k⟩ = drain bank ⟨h0.core, ps0, []⟩
section
variable {w : World} {F0 : Addr → Value → Prop} {h0 : H} {ps0 : List PayS} {bank nr : Int} {t : SbG}
theorem sb_start {h : H} {ps : List PayS} (hp : PaysIn (At w) h.pa h.pl ps) (hF : More (At w) F0) (hlc : h.pl ≤ h.pc) (hsa : SeqsApart ps) (hg : GoodPs ps) (hn : NearG nr h.core) : SbOk w F0 h ps bank nr ⟨F0, h, ps, 0⟩ :=
  ⟨fun _ _ h => h, hp.mono hF, .inl ⟨rfl, rfl, rfl⟩, rfl, hlc, hsa, hg, by simpa using hn, Nat.zero_le _, by simp, by simp⟩
theorem SbOk.step (o : SbOk w F0 h0 ps0 bank nr t) {n : Int} (hn : (queueM ps0 bank)[t.k]? = some n) :
    ∃ p, settles t.ps n = some p ∧ t.ps[n.toNat]? = some p ∧ p.src = bank ∧ queueM t.ps bank = n :: (queueM ps0 bank).drop (t.k + 1) ∧ 0 ≤ n ∧ n.toNat < t.h.pl ∧ n < t.h.pl := by
  have hk : t.k < (queueM ps0 bank).length := (List.getElem?_eq_some_iff.1 hn).1
  have hd : (queueM ps0 bank).drop t.k = n :: (queueM ps0 bank).drop (t.k + 1) := by rw [List.drop_eq_getElem_cons hk]; congr 1; exact (List.getElem?_eq_some_iff.1 hn).2
  have hq := o.queue
  rw [hd] at hq
  obtain ⟨p, h1, h2, _, h3⟩ := (queueM_mine (show n ∈ queueM t.ps bank by rw [hq]; simp)).settles
  have hlt := (List.getElem?_eq_some_iff.1 h2).1
  have := o.pays.1
  have h4 := (settles_spec h1).1
  exact ⟨p, h1, h2, h3, hq, h4, by omega, by omega⟩
theorem SbOk.may (o : SbOk w F0 h0 ps0 bank nr t) (hnr : nr + (queueM ps0 bank).length ≤ 1000000) (a b n : Int) : mayM t.h a b n = maySendM t.h.core a b n := by
  have hk := o.kl
  exact (may_near o.near.ofCore (by omega) a b n).trans rfl
theorem SbOk.stop (o : SbOk w F0 h0 ps0 bank nr t) (hf : firstM t.h.core t.ps bank = none) : drain bank ⟨h0.core, ps0, []⟩ = ⟨t.h.core, t.ps, (queueM ps0 bank).take t.k⟩ := by
  rw [← o.goes]; exact drain_end hf
theorem SbOk.fin (o : SbOk w F0 h0 ps0 bank nr t) (hk : ¬ (t.k : Int) < (queueM ps0 bank).length) : firstM t.h.core t.ps bank = none := by
  refine firstM_nil ?_
  rw [o.queue]; exact List.drop_eq_nil_of_le (by omega)
theorem SbOk.next (o : SbOk w F0 h0 ps0 bank nr t) (h0n : 0 ≤ nr) (hnr : nr + (queueM ps0 bank).length ≤ 1000000) {n : Int} {p : PayS} (hn : (queueM ps0 bank)[t.k]? = some n) (hs : settles t.ps n = some p) (hq : queueM t.ps bank = n :: (queueM ps0 bank).drop (t.k + 1)) (hm : maySendM t.h.core bank p.dst p.amt = true)
    {F' : Addr → Value → Prop} (hF : More t.F F') {h' : H} (hco : h'.core = settleC t.h.core t.ps n) (hlc : h'.pl ≤ h'.pc) (ho : (h'.pa = t.h.pa ∧ h'.pl = t.h.pl ∧ settleP t.ps n = t.ps) ∨ PaysIn (Young w F') h'.pa h'.pl (settleP t.ps n)) : SbOk w F0 h0 ps0 bank nr ⟨F', h', settleP t.ps n, t.k + 1⟩ := by
  have hk : t.k < (queueM ps0 bank).length := (List.getElem?_eq_some_iff.1 hn).1
  have hlen : h'.pl = t.h.pl := by
    rcases ho with ho | ho
    · exact ho.2.1
    · rw [← ho.1, settleP_len, o.pays.1]
  refine ⟨fun a v h => hF a v (o.more a v h), ?_, ?_, by simp only; rw [hlen, o.len], hlc, o.seqs.settle n, settleP_good o.good n, ?_, hk, queue_tail o.seqs hq, ?_⟩
  · rcases ho with ⟨h1, h2, h3⟩ | ho
    · simp only; rw [h1, h2, h3]; exact o.pays.mono hF
    · exact ho.mono (more_young w F')
  · rcases ho with ⟨h1, h2, h3⟩ | ho
    · simp only; rw [h1, h2, h3]
      exact o.out.imp id fun h => h.mono (young_mono hF)
    · exact .inr ho
  · simp only
    rw [hco]
    have := o.near.settle (by omega) (by omega) o.good n
    have e : nr + ((t.k + 1 : Nat) : Int) = nr + (t.k : Int) + 1 := by omega
    rw [e]; exact this
  · simp only
    rw [← o.goes, hco]
    have hf : firstM t.h.core t.ps bank = some n := firstM_yes hq (settles_spec hs).2.1 hm
    have e : (queueM ps0 bank).take (t.k + 1) = (queueM ps0 bank).take t.k ++ [n] := by rw [List.take_add_one, hn]; rfl
    rw [drain_go (s := ⟨t.h.core, t.ps, (queueM ps0 bank).take t.k⟩) hf, e]
    rfl
theorem SbOk.done (o : SbOk w F0 h0 ps0 bank nr t) (hf : firstM t.h.core t.ps bank = none) {w' : World} {L : List (Nat × Obj)} (hw : Has w t.F L w') {a : Option Addr} {c n : Nat} (hi : IntsAt (Young w F0) a (queueM ps0 bank)) (hn : n = t.k) : SweepF h0 ps0 (drain bank ⟨h0.core, ps0, []⟩) (Fresh w w') (.tuple #[.agg t.h.cells, .slice a n c]) := by
  rw [o.stop hf]
  have hl : ((queueM ps0 bank).take t.k).length = t.k := by rw [List.length_take]; have := o.kl; omega
  refine ⟨_, _, rfl, ⟨t.h, rfl, rfl, o.lc, o.out.imp id fun h => h.mono (young_fresh hw)⟩, a, c, ?_, (hi.take t.k).mono fun b v h => young_fresh hw b v (young_mono o.more b v h)⟩
  rw [hn, hl]
end
theorem SwOk.many {w : World} {h0 : H} {ps0 : List PayS} {e : Nat} {t : SwG} (k : SwOk w h0 ps0 e t) {F' : Addr → Value → Prop} (hF : More t.F F') {s : QS} (hlen : s.ps.length = t.ps.length) (hsum : s.xs.length + cnt s.ps = cnt t.ps) {h' : H} (hlc : h'.pl ≤ h'.pc)
    (ho : (h'.pa = t.h.pa ∧ h'.pl = t.h.pl ∧ s.ps = t.ps) ∨ PaysIn (Young w F') h'.pa h'.pl s.ps) {v' : Value} {E' : List (Nat × Obj)} (hl : ListE e 1 v' (t.xs.length + s.xs.length) (t.xs.map I ++ s.xs.map I) E') (b d : Nat) :
    SwOk w h0 ps0 e ⟨F', h', s.ps, t.xs ++ s.xs, v', E', b, d⟩ := by
  have hl' : h'.pl = t.h.pl := by
    rcases ho with ho | ho
    · exact ho.2.1
    · rw [← ho.1, hlen, k.pays.1]
  refine ⟨?_, ?_, by simp only; rw [hl', k.len], hlc, by simpa using hl, ?_⟩
  · rcases ho with ⟨h1, h2, h3⟩ | ho
    · simp only; rw [h1, h2, h3]; exact k.pays.mono hF
    · exact ho.mono (more_young w F')
  · rcases ho with ⟨h1, h2, h3⟩ | ho
    · simp only; rw [h1, h2, h3]
      exact k.out.imp id fun h => h.mono (young_mono hF)
    · exact .inr ho
  · have := k.sum
    simp only [List.length_append]; omega
/-- a pass: which bank is next, how many in a row could do nothing -/
structure SpOk (w : World) (h0 : H) (ps0 : List PayS) (e : Nat) (t : SwG) : Prop where
  sw : SwOk w h0 ps0 e t
  seqs : SeqsApart t.ps
  good : GoodPs t.ps
  near : NearG ((ps0.length : Int) - cnt t.ps) t.h.core
  cl : cnt t.ps ≤ ps0.length
  i4 : t.idle ≤ 4
  goes : sweepFrom (t.bank % 4) t.idle t.q = sweepM h0.core ps0
theorem sp_start {w : World} {h : H} {ps : List PayS} {e : Nat} (hp : PaysIn (At w) h.pa h.pl ps) (hlc : h.pl ≤ h.pc) (hg : goodB h.core ps = true) : SpOk w h ps e ⟨At w, h, ps, [], .slice none 0 0, [], 0, 0⟩ := by
  have hc : cnt ps ≤ ps.length := List.countP_le_length
  obtain ⟨h1, h2, _⟩ := good_pays hg
  refine ⟨swOk_start hp hlc, h2, h1, (GoodH.nearG (good_of hg)).mono (by simp only; omega), hc, by simp, ?_⟩
  simp only [sweepM, hg, cond_true]
  rfl
theorem SpOk.step {w : World} {h0 : H} {ps0 : List PayS} {e : Nat} {t : SwG} (o : SpOk w h0 ps0 e t) (hg : goodB h0.core ps0 = true) (hl : ps0.length ≤ 24) (hk : t.bank < 4) {F' : Addr → Value → Prop} (hF : More t.F F') {h' : H} (hco : h'.core = (drain t.bank ⟨t.h.core, t.ps, []⟩).c) (hlc : h'.pl ≤ h'.pc)
    (ho : (h'.pa = t.h.pa ∧ h'.pl = t.h.pl ∧ (drain t.bank ⟨t.h.core, t.ps, []⟩).ps = t.ps) ∨ PaysIn (Young w F') h'.pa h'.pl (drain t.bank ⟨t.h.core, t.ps, []⟩).ps) {v' : Value} {E' : List (Nat × Obj)}
    (hli : ListE e 1 v' (t.xs.length + (drain t.bank ⟨t.h.core, t.ps, []⟩).xs.length) (t.xs.map I ++ (drain t.bank ⟨t.h.core, t.ps, []⟩).xs.map I) E') :
    ∃ i, SpOk w h0 ps0 e ⟨F', h', (drain t.bank ⟨t.h.core, t.ps, []⟩).ps, t.xs ++ (drain t.bank ⟨t.h.core, t.ps, []⟩).xs, v', E', t.bank + 1, i⟩ ∧ ((t.xs ++ (drain t.bank ⟨t.h.core, t.ps, []⟩).xs).length = t.xs.length → i = 4 ∨ i = t.idle + 1) := by
  have hd := drain_app t.bank t.h.core t.ps t.xs
  have hgo := o.goes
  rw [Nat.mod_eq_of_lt hk] at hgo
  obtain ⟨i, h1, h2, h3⟩ := pass_step hg hk o.i4 hgo
  have hq : drain t.bank t.q = ⟨(drain t.bank ⟨t.h.core, t.ps, []⟩).c, (drain t.bank ⟨t.h.core, t.ps, []⟩).ps, t.xs ++ (drain t.bank ⟨t.h.core, t.ps, []⟩).xs⟩ := hd
  rw [hq] at h2 h3
  have hf := drain_facts t.bank ⟨t.h.core, t.ps, []⟩
  have hke := drain_keeps t.bank _ ⟨t.h.core, t.ps, []⟩ rfl o.seqs
  have hcl := o.cl
  have hne := drain_near t.bank _ ⟨t.h.core, t.ps, []⟩ ((ps0.length : Int) - cnt t.ps) rfl o.good o.near (by omega) (by simp only; omega)
  simp only [List.length_nil, Nat.zero_add] at hf
  refine ⟨i, ⟨o.sw.many hF hke.2 hf.2.1 hlc ho hli _ _, hke.1, hne.2, ?_, by simp only; omega, h1, ?_⟩, h3⟩
  · simp only
    rw [hco]
    exact hne.1.mono (by simp only; omega)
  · simp only [SwG.q]
    rw [hco]
    exact h2
theorem qPays_seqs : SeqsApart qPays := (good_pays (show goodB (qHouse none).core qPays = true by kernel_rfl)).2.1
end Go.Proofs.Ytmkboljfbmlebaa
/- Lists of acts that are looked at; the little book of 'books'; where a book is cut. No condition. -/
namespace Go.Proofs.Ytmkboljfbmlebaa
open Go.RowKit
set_option linter.unusedSimpArgs false
set_option linter.unusedVariables false

def ActsAt (F : Addr → Value → Prop) (a : Option Addr) (xs : List ActS) : Prop := xs = [] ∨ ∃ b o, a = some ⟨b, o, none⟩ ∧ ∀ (j : Nat) (x : ActS), xs[j]? = some x → ∀ (k : Nat) (v : Value), x.cells[k]? = some v → F ⟨b, o + j * 5 + k, none⟩ v
theorem ActsIn.at {F : Addr → Value → Prop} {v : Value} {xs : List ActS} (h : ActsIn F v xs) : ∃ a c, v = .slice a xs.length c ∧ ActsAt F a xs := by
  obtain ⟨a, c, h1, _, h3⟩ := h
  exact ⟨a, c, h1, h3⟩
theorem ActsAt.mono {F F' : Addr → Value → Prop} {a : Option Addr} {xs : List ActS} (h : ActsAt F a xs) (hm : More F F') : ActsAt F' a xs := by
  rcases h with h | ⟨b, o, h1, h2⟩
  · exact .inl h
  · exact .inr ⟨b, o, h1, fun j x hj k v hv => hm _ _ (h2 j x hj k v hv)⟩
theorem ActsAt.at {w0 w : World} {F : Addr → Value → Prop} {L : List (Nat × Obj)} {a : Option Addr} {xs : List ActS} (h : ActsAt F a xs) (hw : Has w0 F L w) : ActsAt (At w) a xs := h.mono hw.at
theorem ActsAt.get {F : Addr → Value → Prop} {a : Option Addr} {xs : List ActS} (h : ActsAt F a xs) {j : Nat} (hj : j < xs.length) : ∃ b o x, a = some ⟨b, o, none⟩ ∧ xs[j]? = some x ∧ ∀ (k : Nat) (v : Value), x.cells[k]? = some v → F ⟨b, o + j * 5 + k, none⟩ v := by
  rcases h with rfl | ⟨b, o, h1, h2⟩
  · simp at hj
  · exact ⟨b, o, xs[j], h1, by simp [hj], h2 j _ (by simp [hj])⟩
def ActS.list (x : ActS) : List Int := [x.kind, x.a, x.b, x.c, x.n]
theorem ActS.cells_list (x : ActS) : x.cells = ((ActS.list x).map I).toArray := rfl
theorem ActS.list_inj {x y : ActS} (h : x.list = y.list) : x = y := by
  cases x; cases y
  simp [ActS.list] at h
  simp [h]
theorem acts_step {xs ys : List ActS} {j : Nat} {x y : ActS} (h : xs.take j = ys.take j) (hx : xs[j]? = some x) (hy : ys[j]? = some y) (he : x.list = y.list) : xs.take (j + 1) = ys.take (j + 1) := by
  rw [List.take_add_one, List.take_add_one, h, hx, hy, ActS.list_inj he]
theorem acts_all {xs ys : List ActS} {j : Nat} (hl : (xs.length : Int) = ys.length) (h : xs.take j = ys.take j) (hj : ¬ (j : Int) < xs.length) : xs = ys := by
  rw [List.take_of_length_le (by omega), List.take_of_length_le (by omega)] at h; exact h
theorem acts_bad {xs ys : List ActS} {j : Nat} {x y : ActS} (hx : xs[j]? = some x) (hy : ys[j]? = some y) (he : ¬ x.list = y.list) : ¬ xs = ys := by
  rintro rfl; rw [hx] at hy; simp at hy; exact he (by rw [hy])
theorem acts_len {xs ys : List ActS} (hl : ¬ (xs.length : Int) = ys.length) : ¬ xs = ys := by rintro rfl; exact hl rfl
/-! the book of 'books' -/
def bAct : ActS := ⟨6, 1, 0, 0, 100⟩
theorem bNoted : noted bAct = true := by decide
def bText : List Nat := frameOf bAct ++ frameOf bAct ++ [120]
theorem bFrame : fText bAct = frameOf bAct := by simp [fText, bNoted]
theorem bLen : (frameOf bAct).length = 9 := by kernel_rfl
theorem bRead : readM bText = [bAct, bAct] := by
  have e : bText = bytesOf [bAct, bAct] ++ [120] := by simp [bText, bytesOf]
  rw [e]
  refine readM_all _ (fun x hx => ?_) _ (fun y hy => ?_)
  · simp at hx; subst hx; exact bNoted
  · have h1 := hy.2.length_le
    have h2 := frame_len y
    simp at h1; omega
theorem bBytes : ((bytesOf (readM bText)).length : Int) = 2 * ((frameOf bAct).length : Int) := by
  rw [bRead]
  have : (bytesOf [bAct, bAct]).length = 2 * (frameOf bAct).length := by simp [bytesOf]; omega
  omega
theorem bByt : Byt bText := Byt.append (Byt.append (frame_byte bNoted) (frame_byte bNoted)) (byt_one (by decide))
/-! a book that is cut -/
theorem bytes_take {xs : List ActS} {k : Nat} {x : ActS} (h : xs[k]? = some x) : bytesOf (xs.take (k + 1)) = bytesOf (xs.take k) ++ frameOf x := by
  rw [List.take_add_one, h]; simp [bytesOf]
theorem bytes_mono (xs : List ActS) {j k : Nat} (h : j ≤ k) : (bytesOf (xs.take j)).length ≤ (bytesOf (xs.take k)).length := by
  have e : xs.take k = xs.take j ++ (xs.take k).drop j := by
    have := List.take_append_drop j (xs.take k)
    rw [List.take_take, Nat.min_eq_left h] at this
    exact this.symm
  rw [e]
  unfold bytesOf
  rw [List.flatMap_append, List.length_append]
  exact Nat.le_add_right _ _
theorem wholes_spec : ∀ (xs : List ActS) (m : Nat), ∃ q, wholes xs m = xs.take q ∧ q ≤ xs.length ∧ (bytesOf (xs.take q)).length ≤ m ∧ (q < xs.length → m < (bytesOf (xs.take (q + 1))).length)
  | [], m => ⟨0, by simp [wholes], by simp, by simp [bytesOf], by simp⟩
  | x :: r, m => by
    by_cases h : (frameOf x).length ≤ m
    · obtain ⟨q, h1, h2, h3, h4⟩ := wholes_spec r (m - (frameOf x).length)
      refine ⟨q + 1, by simp [wholes, h, h1], by simp only [List.length_cons]; omega, ?_, fun hq => ?_⟩
      · simp only [List.take_succ_cons, bytesOf, List.flatMap_cons, List.length_append] at h3 ⊢
        omega
      · simp only [List.length_cons] at hq
        have := h4 (by omega)
        simp only [List.take_succ_cons, bytesOf, List.flatMap_cons, List.length_append] at this ⊢
        omega
    · exact ⟨0, by simp [wholes, h], by simp, by simp [bytesOf], fun _ => by simp [bytesOf]; omega⟩
/-- how many frames are whole, as the law counts them: the last whose end is not behind the cut -/
def wantTo (xs : List ActS) (m : Nat) : Nat → Nat × Nat
  | 0 => (0, 0)
  | j + 1 => if (bytesOf (xs.take (j + 1))).length ≤ m then (j + 1, (bytesOf (xs.take (j + 1))).length) else wantTo xs m j
theorem want_spec {xs : List ActS} {m q : Nat} (h1 : (bytesOf (xs.take q)).length ≤ m) (h2 : q < xs.length → m < (bytesOf (xs.take (q + 1))).length) : ∀ j, j ≤ xs.length → wantTo xs m j = if j ≤ q then (j, (bytesOf (xs.take j)).length) else (q, (bytesOf (xs.take q)).length)
  | 0, _ => by simp [wantTo, bytesOf]
  | j + 1, hj => by
    have ih := want_spec h1 h2 j (by omega)
    unfold wantTo
    by_cases hq : j + 1 ≤ q
    · have := bytes_mono xs hq
      rw [if_pos (by omega), if_pos hq]
    · have h3 := h2 (by omega)
      have h4 := bytes_mono xs (show q + 1 ≤ j + 1 by omega)
      rw [if_neg (by omega), if_neg hq, ih]
      by_cases hj2 : j ≤ q
      · have : j = q := by omega
        subst this
        rw [if_pos (Nat.le_refl _)]
      · rw [if_neg hj2]
theorem want_all {xs : List ActS} {m : Nat} (h : ∀ x ∈ xs, noted x = true) : wantTo xs m xs.length = ((readM ((bytesOf xs).take m)).length, (bytesOf (readM ((bytesOf xs).take m))).length) := by
  obtain ⟨q, e, hq, h1, h2⟩ := wholes_spec xs m
  rw [readM_take xs h, e, want_spec h1 h2 xs.length (Nat.le_refl _)]
  by_cases hl : xs.length ≤ q
  · have : q = xs.length := by omega
    subst this
    rw [if_pos (Nat.le_refl _)]; simp
  · rw [if_neg hl, List.length_take]
    congr 1
    omega
theorem read_prefix {xs : List ActS} {m : Nat} (h : ∀ x ∈ xs, noted x = true) : ∃ q, readM ((bytesOf xs).take m) = xs.take q := by
  obtain ⟨q, e, _⟩ := wholes_spec xs m
  exact ⟨q, by rw [readM_take xs h, e]⟩
def endsTo (xs : List ActS) (k : Nat) : List Int := (List.range k).map fun i => ((bytesOf (xs.take (i + 1))).length : Int)
theorem ends_step (xs : List ActS) (k : Nat) : endsTo xs (k + 1) = endsTo xs k ++ [((bytesOf (xs.take (k + 1))).length : Int)] := by simp [endsTo, List.range_succ]
theorem ends_len (xs : List ActS) (k : Nat) : (endsTo xs k).length = k := by simp [endsTo]
theorem ends_get {xs : List ActS} {k j : Nat} (h : j < k) : (endsTo xs k)[j]? = some ((bytesOf (xs.take (j + 1))).length : Int) := by simp [endsTo, h]
theorem bytes_bound {xs : List ActS} (h : ∀ x ∈ xs, noted x = true) : (bytesOf xs).length ≤ 28 * xs.length := by
  induction xs with
  | nil => simp [bytesOf]
  | cons x r ih =>
    have h1 := frame_len x
    have h2 := body_len (h x (by simp))
    have h3 := ih (fun y hy => h y (by simp [hy]))
    simp only [bytesOf, List.flatMap_cons, List.length_append, List.length_cons] at h3 ⊢
    omega
theorem bytes_byt {xs : List ActS} (h : ∀ x ∈ xs, noted x = true) : Byt (bytesOf xs) := fun b hb => by
  obtain ⟨x, hx, hbx⟩ := List.mem_flatMap.1 hb
  exact frame_byte (h x hx) b hbx
theorem cut_range (cut : Int) (L : Nat) : ∃ m : Nat, ((cut.tmod ((L : Int) + 1) + L + 1).tmod ((L : Int) + 1)) = (m : Int) ∧ m ≤ L := by
  have h1 : -((L : Int) + 1) < cut.tmod ((L : Int) + 1) ∧ cut.tmod ((L : Int) + 1) < (L : Int) + 1 := by
    constructor
    · have := Int.lt_tmod_of_pos cut (show (0 : Int) < (L : Int) + 1 by omega); omega
    · exact Int.tmod_lt_of_pos _ (by omega)
  have h2 : 0 ≤ cut.tmod ((L : Int) + 1) + L + 1 := by omega
  rw [Int.tmod_eq_emod_of_nonneg h2]
  have h3 := Int.emod_nonneg (cut.tmod ((L : Int) + 1) + L + 1) (show ((L : Int) + 1) ≠ 0 by omega)
  have h4 := Int.emod_lt_of_pos (cut.tmod ((L : Int) + 1) + L + 1) (show (0 : Int) < (L : Int) + 1 by omega)
  exact ⟨((cut.tmod ((L : Int) + 1) + L + 1) % ((L : Int) + 1)).toNat, by omega, by omega⟩
theorem cut_mid (cut : Int) (L : Nat) : -((L : Int) + 1) < cut.tmod ((L : Int) + 1) ∧ cut.tmod ((L : Int) + 1) < (L : Int) + 1 := by
  constructor
  · have := Int.lt_tmod_of_pos cut (show (0 : Int) < (L : Int) + 1 by omega); omega
  · exact Int.tmod_lt_of_pos _ (by omega)
theorem bytes_low : ∀ (xs : List ActS), 3 * xs.length ≤ (bytesOf xs).length
  | [] => by simp [bytesOf]
  | x :: r => by
    have h1 := frame_len x
    have h2 := bytes_low r
    simp only [bytesOf, List.flatMap_cons, List.length_append, List.length_cons] at h2 ⊢
    omega
theorem reads_len (l : List Nat) : 3 * (readM l).length ≤ (bytesOf (readM l)).length := bytes_low _
structure BB where
  k : Nat
  v : Value
  E : List (Nat × Obj)
end Go.Proofs.Ytmkboljfbmlebaa
