/- Houses, payments and rows of numbers as cells, and what each part of them reads as. No condition. -/
import Derived.Test.YtmkboljfbmlebaaK2
namespace Go.Proofs.Ytmkboljfbmlebaa
open Go.RowKit
set_option linter.unusedSimpArgs false
set_option linter.unusedVariables false

theorem getq {n : Nat} (g : Nat → Value) {j : Nat} (h : j < n) : (Array.ofFn (n := n) fun i => g i.val)[j]? = some (g j) := by simp [h]
theorem setq {n : Nat} (g g' : Nat → Value) {j : Nat} {v : Value} (hg : ∀ i, i < n → g' i = if i = j then v else g i) : (Array.ofFn (n := n) fun i => g i.val).setIfInBounds j v = Array.ofFn (n := n) fun i => g' i.val := by
  apply Array.ext
  · simp
  · intro i h1 h2
    simp at h1
    rw [Array.getElem_setIfInBounds (by simpa using h1)]
    simp only [Array.getElem_ofFn, hg i h1]
    by_cases e : j = i
    · subst e; simp
    · rw [if_neg e, if_neg (fun h : i = j => e h.symm)]
theorem extq {n m o : Nat} (g g' : Nat → Value) (h : o + m ≤ n) (hg : ∀ i, i < m → g (o + i) = g' i) : (Array.ofFn (n := n) fun i => g i.val).extract o (o + m) = Array.ofFn (n := m) fun i => g' i.val := by
  apply Array.ext
  · simp; omega
  · intro i h1 h2
    simp at h2
    simp [hg i h2]
theorem sameq {n : Nat} (g g' : Nat → Value) (hg : ∀ i, i < n → g i = g' i) : (Array.ofFn (n := n) fun i => g i.val) = Array.ofFn (n := n) fun i => g' i.val := by
  apply Array.ext
  · simp
  · intro i h1 h2
    simp at h1
    simp [hg i h1]

abbrev I (n : Int) : Value := .int .i64 n
def accC (has cred : Int → Int) (j : Nat) : Value := if j % 2 = 0 then I (has (j / 2 : Nat)) else I (cred (j / 2 : Nat))
def matC (m : Int → Int → Int) (j : Nat) : Value := I (m (j / 4 : Nat) (j % 4 : Nat))
def rowC (r : Int → Int) (j : Nat) : Value := I (r j)
def accA (has cred : Int → Int) : Array Value := Array.ofFn (n := 8) fun j => accC has cred j.val
def matA (m : Int → Int → Int) : Array Value := Array.ofFn (n := 16) fun j => matC m j.val
def rowA (r : Int → Int) : Array Value := Array.ofFn (n := 4) fun j => rowC r j.val
def acc2 (a c : Int) : Array Value := #[I a, I c]
structure PayS where
  src : Int
  dst : Int
  amt : Int
  cls : Int
  sta : Int
  seq : Int
def PayS.cells (p : PayS) : Array Value := #[I p.src, I p.dst, I p.amt, I p.cls, I p.sta, I p.seq]
structure H where
  has : Int → Int
  cred : Int → Int
  sent : Int → Int → Int
  lim : Int → Int → Int
  pa : Option Addr
  pl : Nat
  pc : Nat
  next : Int
def H.pays (h : H) : Value := .slice h.pa h.pl h.pc
def H.cell (h : H) (j : Nat) : Value :=
  if j < 8 then accC h.has h.cred j
  else if j < 24 then matC h.sent (j - 8)
  else if j < 40 then matC h.lim (j - 24)
  else if j = 40 then .slice h.pa h.pl h.pc else I h.next
def H.cells (h : H) : Array Value := Array.ofFn (n := 42) fun j => h.cell j.val

def zeroH : H := { has := fun _ => 0, cred := fun _ => 0, sent := fun _ _ => 0, lim := fun _ _ => 0, pa := none, pl := 0, pc := 0, next := 0 }
def up1 (g : Int → Int) (i v : Int) : Int → Int := fun x => if x = i then v else g x
def up2 (g : Int → Int → Int) (i k v : Int) : Int → Int → Int := fun x y => if x = i ∧ y = k then v else g x y

theorem H.size (h : H) : h.cells.size = 42 := by simp [H.cells]
theorem accA_size (a b : Int → Int) : (accA a b).size = 8 := by simp [accA]
theorem matA_size (m : Int → Int → Int) : (matA m).size = 16 := by simp [matA]
theorem rowA_size (m : Int → Int) : (rowA m).size = 4 := by simp [rowA]

theorem H.at_has (h : H) {i : Int} (hi : 0 ≤ i ∧ i < 4) : h.cells[0 + 0 + i.toNat * 2 + 0]? = some (I (h.has i)) := by
  rw [H.cells, getq _ (by omega)]
  have e : ((0 + 0 + i.toNat * 2 + 0) / 2 : Nat) = i.toNat := by omega
  have : ((i.toNat : Nat) : Int) = i := by omega
  simp only [H.cell, accC, if_pos (show 0 + 0 + i.toNat * 2 + 0 < 8 by omega), if_pos (show (0 + 0 + i.toNat * 2 + 0) % 2 = 0 by omega), e, this]
theorem H.at_cred (h : H) {i : Int} (hi : 0 ≤ i ∧ i < 4) : h.cells[0 + 0 + i.toNat * 2 + 1]? = some (I (h.cred i)) := by
  rw [H.cells, getq _ (by omega)]
  have e : ((0 + 0 + i.toNat * 2 + 1) / 2 : Nat) = i.toNat := by omega
  have : ((i.toNat : Nat) : Int) = i := by omega
  simp only [H.cell, accC, if_pos (show 0 + 0 + i.toNat * 2 + 1 < 8 by omega), if_neg (show ¬ (0 + 0 + i.toNat * 2 + 1) % 2 = 0 by omega), e, this]
theorem H.at_sent (h : H) {i k : Int} (hi : 0 ≤ i ∧ i < 4) (hk : 0 ≤ k ∧ k < 4) : h.cells[0 + 8 + i.toNat * 4 + k.toNat * 1]? = some (I (h.sent i k)) := by
  rw [H.cells, getq _ (by omega)]
  have e : ((0 + 8 + i.toNat * 4 + k.toNat * 1 - 8) / 4 : Nat) = i.toNat := by omega
  have e' : ((0 + 8 + i.toNat * 4 + k.toNat * 1 - 8) % 4 : Nat) = k.toNat := by omega
  have h1 : ((i.toNat : Nat) : Int) = i := by omega
  have h2 : ((k.toNat : Nat) : Int) = k := by omega
  simp only [H.cell, matC, if_neg (show ¬ 0 + 8 + i.toNat * 4 + k.toNat * 1 < 8 by omega), if_pos (show 0 + 8 + i.toNat * 4 + k.toNat * 1 < 24 by omega), e, e', h1, h2]
theorem H.at_lim (h : H) {i k : Int} (hi : 0 ≤ i ∧ i < 4) (hk : 0 ≤ k ∧ k < 4) : h.cells[0 + 24 + i.toNat * 4 + k.toNat * 1]? = some (I (h.lim i k)) := by
  rw [H.cells, getq _ (by omega)]
  have e : ((0 + 24 + i.toNat * 4 + k.toNat * 1 - 24) / 4 : Nat) = i.toNat := by omega
  have e' : ((0 + 24 + i.toNat * 4 + k.toNat * 1 - 24) % 4 : Nat) = k.toNat := by omega
  have h1 : ((i.toNat : Nat) : Int) = i := by omega
  have h2 : ((k.toNat : Nat) : Int) = k := by omega
  simp only [H.cell, matC, if_neg (show ¬ 0 + 24 + i.toNat * 4 + k.toNat * 1 < 8 by omega), if_neg (show ¬ 0 + 24 + i.toNat * 4 + k.toNat * 1 < 24 by omega), if_pos (show 0 + 24 + i.toNat * 4 + k.toNat * 1 < 40 by omega), e, e', h1, h2]
theorem H.at_pays (h : H) : h.cells[0 + 40]? = some (.slice h.pa h.pl h.pc) := by rw [H.cells, getq _ (by omega)]; simp [H.cell]
theorem H.at_next (h : H) : h.cells[0 + 41]? = some (I h.next) := by rw [H.cells, getq _ (by omega)]; simp [H.cell]
theorem H.ex_acc (h : H) : h.cells.extract (0 + 0) (0 + 0 + 8) = accA h.has h.cred := extq _ _ (by omega) (fun i hi => by simp [H.cell, hi])
theorem H.ex_acc1 (h : H) {i : Int} (hi : 0 ≤ i ∧ i < 4) : h.cells.extract (0 + 0 + i.toNat * 2) (0 + 0 + i.toNat * 2 + 2) = acc2 (h.has i) (h.cred i) := by
  have h1 := h.at_has hi
  have h2 := h.at_cred hi
  apply Array.ext_getElem?
  intro j
  rw [Array.getElem?_extract]
  rcases j with _ | _ | j
  · rw [if_pos (by rw [H.size]; omega)]; simpa [acc2] using h1
  · rw [if_pos (by rw [H.size]; omega)]; simpa [acc2] using h2
  · rw [if_neg (by rw [H.size]; omega)]; simp [acc2]
theorem H.ex_sent (h : H) : h.cells.extract (0 + 8) (0 + 8 + 16) = matA h.sent := extq _ _ (by omega) (fun i hi => by
  simp only [H.cell, if_neg (show ¬ 0 + 8 + i < 8 by omega), if_pos (show 0 + 8 + i < 24 by omega)]; congr 1; omega)
theorem H.ex_lim (h : H) : h.cells.extract (0 + 24) (0 + 24 + 16) = matA h.lim := extq _ _ (by omega) (fun i hi => by
  simp only [H.cell, if_neg (show ¬ 0 + 24 + i < 8 by omega), if_neg (show ¬ 0 + 24 + i < 24 by omega), if_pos (show 0 + 24 + i < 40 by omega)]; congr 1; omega)
theorem accA_at (a c : Int → Int) {i : Int} (hi : 0 ≤ i ∧ i < 4) : (accA a c).extract (i.toNat * 2) (i.toNat * 2 + 2) = acc2 (a i) (c i) := by
  have h1 : ((i.toNat : Nat) : Int) = i := by omega
  apply Array.ext_getElem?
  intro j
  rw [Array.getElem?_extract]
  rcases j with _ | _ | j
  · rw [if_pos (by rw [accA_size]; omega), accA, getq _ (by omega)]
    simp only [accC, acc2, Nat.add_zero, if_pos (show i.toNat * 2 % 2 = 0 by omega), show i.toNat * 2 / 2 = i.toNat by omega, h1]; rfl
  · rw [if_pos (by rw [accA_size]; omega), accA, getq _ (by omega)]
    simp only [accC, acc2, if_neg (show ¬ (i.toNat * 2 + (0 + 1)) % 2 = 0 by omega), show (i.toNat * 2 + (0 + 1)) / 2 = i.toNat by omega, h1]; rfl
  · rw [if_neg (by rw [accA_size]; omega)]; simp [acc2]
theorem matA_row (m : Int → Int → Int) {i : Int} (hi : 0 ≤ i ∧ i < 4) : (matA m).extract (i.toNat * 4) (i.toNat * 4 + 4) = rowA (m i) := extq _ _ (by omega) (fun j hj => by
  have h1 : ((i.toNat : Nat) : Int) = i := by omega
  simp only [matC, rowC, show (i.toNat * 4 + j) / 4 = i.toNat by omega, show (i.toNat * 4 + j) % 4 = j by omega, h1])
theorem rowA_at (r : Int → Int) {i : Int} (hi : 0 ≤ i ∧ i < 4) : (rowA r)[i.toNat * 1]? = some (I (r i)) := by
  have h1 : ((i.toNat : Nat) : Int) = i := by omega
  rw [rowA, getq _ (by omega)]
  simp only [rowC, Nat.mul_one, h1]
theorem rowA_at0 (r : Int → Int) {i : Int} (hi : 0 ≤ i ∧ i < 4) : (rowA r)[0 + i.toNat * 1]? = some (I (r i)) := by rw [Nat.zero_add]; exact rowA_at r hi
theorem acc2_all (a c : Int) : (acc2 a c).all (·.oneCell') = true := by simp [acc2, Value.oneCell']

theorem ofFn_all {n : Nat} (g : Nat → Value) (hg : ∀ i, (g i).oneCell' = true) : (Array.ofFn (n := n) fun i => g i.val).all (·.oneCell') = true := by
  rw [Array.all_eq_true_iff_forall_mem]
  intro v hv
  obtain ⟨j, hj, rfl⟩ := Array.mem_iff_getElem.1 hv
  simp only [Array.getElem_ofFn, hg]
theorem rowA_all (r : Int → Int) : (rowA r).all (·.oneCell') = true := ofFn_all _ fun _ => rfl
theorem matA_all (m : Int → Int → Int) : (matA m).all (·.oneCell') = true := ofFn_all _ fun _ => rfl
theorem accA_all (a c : Int → Int) : (accA a c).all (·.oneCell') = true := ofFn_all _ fun i => by unfold accC; split <;> rfl
theorem PayS.all1 (p : PayS) : p.cells.all (·.oneCell') = true := by simp [PayS.cells, Value.oneCell']
theorem H.set_has (h : H) {i v : Int} (hi : 0 ≤ i ∧ i < 4) : 0 + 0 + i.toNat * 2 + 0 < h.cells.size ∧ h.cells.setIfInBounds (0 + 0 + i.toNat * 2 + 0) (I v) = ({ h with has := up1 h.has i v } : H).cells := by
  refine ⟨by rw [H.size]; omega, setq _ _ fun j hj => ?_⟩
  simp only [H.cell, accC, up1]
  by_cases e : j = 0 + 0 + i.toNat * 2 + 0
  · have e1 : ((j / 2 : Nat) : Int) = i := by omega
    simp only [if_pos e, if_pos (show j < 8 by omega), if_pos (show j % 2 = 0 by omega), if_pos e1]
  · simp only [if_neg e]
    by_cases h8 : j < 8
    · simp only [if_pos h8]
      by_cases h2 : j % 2 = 0
      · simp only [if_pos h2, if_neg (show ¬ ((j / 2 : Nat) : Int) = i by omega)]
      · simp only [if_neg h2]
    · simp only [if_neg h8]
theorem H.set_cred (h : H) {i v : Int} (hi : 0 ≤ i ∧ i < 4) : 0 + 0 + i.toNat * 2 + 1 < h.cells.size ∧ h.cells.setIfInBounds (0 + 0 + i.toNat * 2 + 1) (I v) = ({ h with cred := up1 h.cred i v } : H).cells := by
  refine ⟨by rw [H.size]; omega, setq _ _ fun j hj => ?_⟩
  simp only [H.cell, accC, up1]
  by_cases e : j = 0 + 0 + i.toNat * 2 + 1
  · have e1 : ((j / 2 : Nat) : Int) = i := by omega
    simp only [if_pos e, if_pos (show j < 8 by omega), if_neg (show ¬ j % 2 = 0 by omega), if_pos e1]
  · simp only [if_neg e]
    by_cases h8 : j < 8
    · simp only [if_pos h8]
      by_cases h2 : j % 2 = 0
      · simp only [if_pos h2]
      · simp only [if_neg h2, if_neg (show ¬ ((j / 2 : Nat) : Int) = i by omega)]
    · simp only [if_neg h8]
theorem H.set_sent (h : H) {i k v : Int} (hi : 0 ≤ i ∧ i < 4) (hk : 0 ≤ k ∧ k < 4) : 0 + 8 + i.toNat * 4 + k.toNat * 1 < h.cells.size ∧ h.cells.setIfInBounds (0 + 8 + i.toNat * 4 + k.toNat * 1) (I v) = ({ h with sent := up2 h.sent i k v } : H).cells := by
  refine ⟨by rw [H.size]; omega, setq _ _ fun j hj => ?_⟩
  simp only [H.cell, matC, up2]
  by_cases e : j = 0 + 8 + i.toNat * 4 + k.toNat * 1
  · have e1 : (((j - 8) / 4 : Nat) : Int) = i ∧ (((j - 8) % 4 : Nat) : Int) = k := by omega
    simp only [if_pos e, if_neg (show ¬ j < 8 by omega), if_pos (show j < 24 by omega), if_pos e1]
  · simp only [if_neg e]
    by_cases h8 : j < 8
    · simp only [if_pos h8]
    · simp only [if_neg h8]
      by_cases h24 : j < 24
      · simp only [if_pos h24, if_neg (show ¬ ((((j - 8) / 4 : Nat) : Int) = i ∧ (((j - 8) % 4 : Nat) : Int) = k) by omega)]
      · simp only [if_neg h24]
theorem H.set_lim (h : H) {i k v : Int} (hi : 0 ≤ i ∧ i < 4) (hk : 0 ≤ k ∧ k < 4) : 0 + 24 + i.toNat * 4 + k.toNat * 1 < h.cells.size ∧ h.cells.setIfInBounds (0 + 24 + i.toNat * 4 + k.toNat * 1) (I v) = ({ h with lim := up2 h.lim i k v } : H).cells := by
  refine ⟨by rw [H.size]; omega, setq _ _ fun j hj => ?_⟩
  simp only [H.cell, matC, up2]
  by_cases e : j = 0 + 24 + i.toNat * 4 + k.toNat * 1
  · have e1 : (((j - 24) / 4 : Nat) : Int) = i ∧ (((j - 24) % 4 : Nat) : Int) = k := by omega
    simp only [if_pos e, if_neg (show ¬ j < 8 by omega), if_neg (show ¬ j < 24 by omega), if_pos (show j < 40 by omega), if_pos e1]
  · simp only [if_neg e]
    by_cases h8 : j < 8
    · simp only [if_pos h8]
    · simp only [if_neg h8]
      by_cases h24 : j < 24
      · simp only [if_pos h24]
      · simp only [if_neg h24]
        by_cases h40 : j < 40
        · simp only [if_pos h40, if_neg (show ¬ ((((j - 24) / 4 : Nat) : Int) = i ∧ (((j - 24) % 4 : Nat) : Int) = k) by omega)]
        · simp only [if_neg h40]
theorem H.set_pays (h : H) {a : Option Addr} {l c : Nat} : 0 + 40 < h.cells.size ∧ h.cells.setIfInBounds (0 + 40) (.slice a l c) = ({ h with pa := a, pl := l, pc := c } : H).cells := by
  refine ⟨by rw [H.size]; omega, setq _ _ fun j hj => ?_⟩
  simp only [H.cell]
  by_cases e : j = 0 + 40
  · subst e; simp
  · simp only [if_neg e, if_neg (show ¬ j = 40 by omega)]
theorem H.set_next (h : H) {v : Int} : 0 + 41 < h.cells.size ∧ h.cells.setIfInBounds (0 + 41) (I v) = ({ h with next := v } : H).cells := by
  refine ⟨by rw [H.size]; omega, setq _ _ fun j hj => ?_⟩
  simp only [H.cell]
  by_cases e : j = 0 + 41
  · subst e; simp
  · simp only [if_neg e, if_neg (show ¬ 41 = 40 by omega)]
    split
    · rfl
    · split
      · rfl
      · split
        · rfl
        · rw [if_pos (by omega)]; rw [if_pos (by omega)]
theorem H.all1 (h : H) : h.cells.all (·.oneCell') = true := by
  rw [Array.all_eq_true_iff_forall_mem]
  intro v hv
  obtain ⟨j, hj, rfl⟩ := Array.mem_iff_getElem.1 hv
  simp only [H.cells, Array.getElem_ofFn, H.cell, accC, matC]
  split
  · split <;> rfl
  · split
    · rfl
    · split
      · rfl
      · split
        · rfl
        · rfl
theorem H.cells_eq {h k : H} (h1 : ∀ i : Int, 0 ≤ i → i < 4 → h.has i = k.has i) (h2 : ∀ i : Int, 0 ≤ i → i < 4 → h.cred i = k.cred i) (h3 : ∀ i j : Int, 0 ≤ i → i < 4 → 0 ≤ j → j < 4 → h.sent i j = k.sent i j)
    (h4 : ∀ i j : Int, 0 ≤ i → i < 4 → 0 ≤ j → j < 4 → h.lim i j = k.lim i j) (h5 : h.pa = k.pa ∧ h.pl = k.pl ∧ h.pc = k.pc) (h6 : h.next = k.next) : h.cells = k.cells := sameq _ _ fun j hj => by
  simp only [H.cell, accC, matC, h5.1, h5.2.1, h5.2.2, h6]
  split
  · rw [h1 _ (by omega) (by omega), h2 _ (by omega) (by omega)]
  · split
    · rw [h3 _ _ (by omega) (by omega) (by omega) (by omega)]
    · split
      · rw [h4 _ _ (by omega) (by omega) (by omega) (by omega)]
      · rfl
end Go.Proofs.Ytmkboljfbmlebaa
