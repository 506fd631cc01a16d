/- What bookBack_holds stands on, part 8: each part says what it proves. No condition beside those that it names. -/
import Derived.Test.YtbajdhahmmfhcaaPL117
import Derived.Great.BuildSlice
import Derived.Laws.IdiomStrings
import Derived.Laws.Strings3
import Derived.Laws.Concat
import Derived.Laws.Entries
/- What may be done together: where each bank stands behind it, and that of two such the more of each bank may be done too. No condition. -/
namespace Go.Proofs.Ytbajdhahmmfhcaa
open Go.RowKit
set_option linter.unusedSimpArgs false
set_option linter.unusedVariables false

def moveQ (ps : List PayS) (bank : Int) (x : H) : List Int → H
  | [] => x
  | i :: r => moveQ ps bank (match ps[i.toNat]? with | some p => moveM x bank p.dst p.amt | none => x) r
theorem moveQ_snoc (ps : List PayS) (bank : Int) : ∀ (xs : List Int) (x : H) (i : Int), moveQ ps bank x (xs ++ [i]) = (match ps[i.toNat]? with | some p => moveM (moveQ ps bank x xs) bank p.dst p.amt | none => moveQ ps bank x xs)
  | [], x, i => rfl
  | j :: r, x, i => by simp only [List.cons_append, moveQ]; exact moveQ_snoc ps bank r _ i
def movesTo (h : H) (ps : List PayS) (n : Int → Int) : Nat → H
  | 0 => h
  | b + 1 => moveQ ps b (movesTo h ps n b) ((queueM ps b).take (n b).toNat)
def okBank (x : H) (b : Int) : Bool := !decide (wr (x.has b + x.cred b) < 0) && a4 fun t => !(decide (0 ≤ x.lim b t) && decide (x.lim b t < wr (x.sent b t - x.sent t b)))
def togetherM (h : H) (ps : List PayS) (n : Int → Int) : Bool :=
  goodB h ps && (a4 fun b => withinB (n b) 0 (queueM ps b).length) && a4 fun b => decide (n b = 0) || okBank (movesTo h ps n 4) b

/-! sums -/
def amtOf (ps : List PayS) (i : Int) : Int := match ps[i.toNat]? with | some p => p.amt | none => 0
def toOf (ps : List PayS) (d i : Int) : Int := match ps[i.toNat]? with | some p => if p.dst = d then p.amt else 0 | none => 0
def outS (ps : List PayS) : List Int → Int
  | [] => 0
  | i :: r => amtOf ps i + outS ps r
def toS (ps : List PayS) (d : Int) : List Int → Int
  | [] => 0
  | i :: r => toOf ps d i + toS ps d r
def GoodL (ps : List PayS) (bank : Int) (xs : List Int) : Prop := ∀ i ∈ xs, ∃ p, ps[i.toNat]? = some p ∧ goodTransferB bank p.dst p.amt = true
structure Near (k : Int) (h : H) : Prop where
  has : ∀ i : Int, 0 ≤ i ∧ i < 4 → -1099511627776 - k * 1000000 ≤ h.has i ∧ h.has i ≤ 1099511627776 + k * 1000000
  sent : ∀ i j : Int, 0 ≤ i ∧ i < 4 → 0 ≤ j ∧ j < 4 → 0 ≤ h.sent i j ∧ h.sent i j ≤ 1099511627776 + k * 1000000
theorem GoodH.near {h : H} (g : GoodH h) : Near 0 h := ⟨fun i hi => by have := g.has i hi; omega, fun i j hi hj => by have := g.sent i j hi hj; omega⟩
theorem move_at {h : H} {k : Int} (hn : Near k h) (hk : k ≤ 1000000) {a b n : Int} (ht : goodTransferB a b n = true) :
    moveM h a b n = { h with has := up1 (up1 h.has a (h.has a - n)) b (h.has b + n), sent := up2 h.sent a b (h.sent a b + n) } := by
  obtain ⟨ha, hb, hne, h1, h2⟩ := transfer_spec ht
  have e1 := hn.has a ha
  have e2 := hn.has b hb
  have e3 := hn.sent a b ha hb
  unfold moveM
  rw [if_pos ht]
  have x1 : wr (h.has a - n) = h.has a - n := wr_in (by omega) (by omega)
  have x2 : up1 h.has a (wr (h.has a - n)) b = h.has b := by unfold up1; rw [if_neg (fun e => hne e.symm)]
  rw [x2, x1, wr_in (show -9223372036854775808 ≤ h.has b + n by omega) (by omega), wr_in (show -9223372036854775808 ≤ h.sent a b + n by omega) (by omega)]
theorem moveQ_spec (ps : List PayS) (bank : Int) : ∀ (xs : List Int) (h : H) (k : Int), GoodL ps bank xs → Near k h → 0 ≤ k → k + xs.length ≤ 1000000 →
    (∀ i : Int, 0 ≤ i ∧ i < 4 → (moveQ ps bank h xs).has i = h.has i - (if i = bank then outS ps xs else 0) + toS ps i xs) ∧
    (∀ i j : Int, 0 ≤ i ∧ i < 4 → 0 ≤ j ∧ j < 4 → (moveQ ps bank h xs).sent i j = h.sent i j + (if i = bank then toS ps j xs else 0)) ∧
    (moveQ ps bank h xs).cred = h.cred ∧ (moveQ ps bank h xs).lim = h.lim ∧ Near (k + xs.length) (moveQ ps bank h xs)
  | [], h, k, _, hn, _, _ => ⟨fun i _ => by simp [moveQ, outS, toS], fun i j _ _ => by simp [moveQ, toS], rfl, rfl, by simpa [moveQ] using hn⟩
  | x :: r, h, k, hg, hn, h0, hk => by
    obtain ⟨p, hp, ht⟩ := hg x (by simp)
    simp only [List.length_cons] at hk
    obtain ⟨ha, hb, hne, h1, h2⟩ := transfer_spec ht
    have hm := move_at hn (by omega) ht
    have hn' : Near (k + 1) (moveM h bank p.dst p.amt) := by
      rw [hm]
      refine ⟨fun i hi => ?_, fun i j hi hj => ?_⟩
      · have e1 := hn.has i hi
        simp only [up1]
        split
        · rename_i e; subst e; omega
        · split
          · rename_i e; subst e; omega
          · omega
      · have e1 := hn.sent i j hi hj
        simp only [up2]
        split
        · rename_i e; obtain ⟨e2, e3⟩ := e; subst e2; subst e3; omega
        · omega
    obtain ⟨i1, i2, i3, i4, i5⟩ := moveQ_spec ps bank r (moveM h bank p.dst p.amt) (k + 1) (fun i hi => hg i (by simp [hi])) hn' (by omega) (by omega)
    have hq : moveQ ps bank h (x :: r) = moveQ ps bank (moveM h bank p.dst p.amt) r := by simp only [moveQ, hp]
    rw [hq]
    refine ⟨fun i hi => ?_, fun i j hi hj => ?_, ?_, ?_, ?_⟩
    · rw [i1 i hi, hm]
      simp only [up1, outS, toS, amtOf, toOf, hp]
      by_cases e1 : i = p.dst
      · rw [e1]
        have e2 : ¬ p.dst = bank := fun e => hne e.symm
        simp only [e2, if_true, if_false]; omega
      · have e1' : ¬ p.dst = i := fun e => e1 e.symm
        by_cases e2 : i = bank
        · rw [e2]
          rw [e2] at e1 e1'
          simp only [e1, e1', if_true, if_false]; omega
        · simp only [e1, e1', e2, if_false]; omega
    · rw [i2 i j hi hj, hm]
      simp only [up2, toS, toOf, hp]
      by_cases e1 : i = bank
      · rw [e1]
        by_cases e2 : j = p.dst
        · rw [e2]; simp only [and_self, if_true]; omega
        · have e2' : ¬ p.dst = j := fun e => e2 e.symm
          simp only [e2, e2', and_false, if_true, if_false]; omega
      · simp only [e1, false_and, if_false]
    · rw [i3, hm]
    · rw [i4, hm]
    · have : k + ((x :: r).length : Int) = k + 1 + (r.length : Int) := by simp only [List.length_cons]; omega
      rw [this]; exact i5
theorem toOf_nonneg {ps : List PayS} {bank : Int} {xs : List Int} (hg : GoodL ps bank xs) (d : Int) : ∀ i ∈ xs, 0 ≤ toOf ps d i := fun i hi => by
  obtain ⟨p, hp, ht⟩ := hg i hi
  obtain ⟨_, _, _, h1, h2⟩ := transfer_spec ht
  simp only [toOf, hp]
  split <;> omega
theorem toS_take (ps : List PayS) (d : Int) : ∀ (xs : List Int), (∀ i ∈ xs, 0 ≤ toOf ps d i) → ∀ (a b : Nat), a ≤ b → toS ps d (xs.take a) ≤ toS ps d (xs.take b)
  | [], _, a, b, _ => by simp [toS]
  | x :: r, h, a, b, hab => by
    cases a with
    | zero =>
      have : ∀ ys : List Int, (∀ i ∈ ys, 0 ≤ toOf ps d i) → 0 ≤ toS ps d ys := by
        intro ys
        induction ys with
        | nil => intro _; simp [toS]
        | cons y r ih => intro h; have := h y (by simp); have := ih (fun i hi => h i (by simp [hi])); simp only [toS]; omega
      simp only [List.take_zero, toS]
      exact this _ (fun i hi => h i (List.mem_of_mem_take hi))
    | succ a =>
      cases b with
      | zero => omega
      | succ b =>
        simp only [List.take_succ_cons, toS]
        have := toS_take ps d r (fun i hi => h i (by simp [hi])) a b (by omega)
        omega
end Go.Proofs.Ytbajdhahmmfhcaa
/- Houses that came back, compared. No condition. -/
namespace Go.Proofs.Ytbajdhahmmfhcaa
open Go.RowKit
set_option linter.unusedSimpArgs false
set_option linter.unusedVariables false

theorem outPays {F G F' : Addr → Value → Prop} {h0 h : H} {ps0 ps : List PayS} (hp : PaysIn F h0.pa h0.pl ps0) (hF : More F F') (hG : More G F') (ho : (h.pa = h0.pa ∧ h.pl = h0.pl ∧ ps = ps0) ∨ PaysIn G h.pa h.pl ps) : PaysIn F' h.pa h.pl ps := by
  rcases ho with ⟨h1, h2, rfl⟩ | ho
  · rw [h1, h2]; exact hp.mono hF
  · exact ho.mono hG
theorem same_core {h k : H} {ps : List PayS} (hc : h.core = k.core) (hl : h.pl = k.pl) : sameB h ps k ps = true := by
  have e1 : h.has = k.has := show h.core.has = k.core.has by rw [hc]
  have e2 : h.cred = k.cred := show h.core.cred = k.core.cred by rw [hc]
  have e3 : h.sent = k.sent := show h.core.sent = k.core.sent by rw [hc]
  have e4 : h.lim = k.lim := show h.core.lim = k.core.lim by rw [hc]
  have e5 : h.next = k.next := show h.core.next = k.core.next by rw [hc]
  exact same_of (fun i _ => ⟨by rw [e1], by rw [e2]⟩) (fun i j _ _ => ⟨by rw [e3], by rw [e4]⟩) e5 hl
theorem chainP_len : ∀ (r : List Int) (ps : List PayS), (chainP ps r).length = ps.length
  | [], _ => rfl
  | i :: r, ps => by simp only [chainP]; rw [chainP_len r, settleP_len]
theorem chain_len : ∀ (r : List Int) (c : H) (ps : List PayS), Chain c ps r → r.length ≤ cnt ps
  | [], _, _, _ => by simp
  | i :: r, c, ps, h => by
    obtain ⟨⟨b, _, hf⟩, h2⟩ := h
    obtain ⟨p, _, _, h3, _⟩ := firstM_spec hf
    have := cnt_settle h3
    have := chain_len r _ _ h2
    simp only [List.length_cons]; omega
theorem sweepM_len (c : H) (ps : List PayS) : (sweepM c ps).ps.length = ps.length ∧ (sweepM c ps).xs.length ≤ ps.length := by
  cases hg : goodB c ps
  · simp [sweepM, hg]
  · obtain ⟨h1, h2, h3⟩ := sweepM_goes hg
    refine ⟨by rw [h3, chainP_len], ?_⟩
    have := chain_len _ _ _ h1
    have h4 : cnt ps ≤ ps.length := List.countP_le_length
    omega
section
variable {P : Program} {f : Nat → Value} {l : List Oper} {T : Nat → (Addr → Value → Prop) → Value → Prop} {d : Nat} {op : Op} {ty : TypeId} {pos : String} {af : Array Edge} {C : World → Prop}
theorem ob_passU {j s : Nat} {b : Bool} (hj : (l.toArray[j]?).bind (·.dst) = some s) (hs : ∀ (g : Nat → Value) (w : World), C w → (∀ t ∈ (⟨some d, op, ty, pos, af, some (j, b)⟩ : Oper).looksAt l.toArray, (t ∈ dstsOf l → Tab T t (g t) w) ∧ (t ∉ dstsOf l → g t = f t)) → g s = undef ∧ ∀ w, Tab T d undef w) : Ob P C f l (Tab T) ⟨some d, op, ty, pos, af, some (j, b)⟩ := by
  intro g w hw hl
  obtain ⟨h1, h3⟩ := hs g w hw hl
  have : ¬ Region.wanted ⟨some d, op, ty, pos, af, some (j, b)⟩ (yf l.toArray g) = true := by
    simp only [Region.wanted, yf, hj, h1]
    cases b <;> simp [undef]
  rw [if_neg this]
  intro e he
  simp at he; subst he
  exact h3 w
end
end Go.Proofs.Ytbajdhahmmfhcaa
/- Lists of payments put together; what was the call's own, only kept in mind; the little house of 'queues'. No condition. -/
namespace Go.Proofs.Ytbajdhahmmfhcaa
open Go.RowKit
set_option linter.unusedSimpArgs false
set_option linter.unusedVariables false

def sliceCells (P : Program) (T : TypeId) (len : Nat) (vs : List (Nat × Value)) : Option (TypeId × Array Value) := match P.underlying T with
  | some (.slice e) => match P.info? e with
    | some i => match i.zero with
      | some z => if len * i.size ≤ 100000 ∧ 0 < len * i.size then (Instr.fill (fun k => some (k * i.size, i.size)) ((Array.range (len * i.size)).map (z.cells[· % z.cells.size]!)) vs).map fun cs => (e, cs) else none
      | none => none
    | none => none
  | _ => none
section
variable {P : Program} {ops : Array Oper} {K : (Nat → Value) → World → Prop} {rest : List Oper} {f : Nat → Value} {d : Nat} {ty : TypeId} {pos : String} {af : Array Edge} {w0 : World} {F : Addr → Value → Prop} {E L : List (Nat × Obj)}
theorem s_buildS {T e len : Nat} {parts : List (Nat × Operand)} {vs : List (Nat × Value)} {cs : Array Value} (hv : parts.map (fun p => (p.1, ev f p.2)) = vs) (h : sliceCells P T len vs = some (e, cs))
    (kk : ∀ b, sC P ops K rest (upd f d (.slice (some ⟨b, 0, none⟩) len len)) (Has w0 F ((b, .cells cs e) :: L))) :
    sC P ops K (⟨some d, .buildSlice T len parts.toArray, ty, pos, af, none⟩ :: rest) f (Has w0 F L) := by
  intro w hw
  unfold sliceCells at h
  split at h
  · rename_i e' hu
    split at h
    · rename_i i hi
      split at h
      · rename_i z hz
        split at h
        · rename_i hb
          cases hfl : Instr.fill (fun k => some (k * i.size, i.size)) ((Array.range (len * i.size)).map (z.cells[· % z.cells.size]!)) vs with
          | none => rw [hfl] at h; cases h
          | some cs' =>
            rw [hfl] at h
            simp at h
            obtain ⟨rfl, rfl⟩ := h
            have hr := run_buildSlice (P := P) w T e' len vs.toArray cs' i z hu hi hz (by omega) (by omega) (by simpa using hfl)
            have e1 : (parts.toArray.map fun p => (p.1, ev f p.2)) = vs.toArray := by simp [hv]
            unfold sw
            rw [if_pos wanted_free]
            unfold opk
            have : (execOp (ev f) ⟨some d, .buildSlice T len parts.toArray, ty, pos, af, none⟩).run P w = .ok (.value (.slice (some ⟨w.heap.size, 0, none⟩) len len)) (w.alloc (.cells cs' e')) := by
              simp only [execOp]
              rw [e1]
              simp [hr]
            rw [this]
            exact kk _ _ (hw.alloc _)
        · cases h
      · cases h
    · cases h
  · cases h
theorem c_forget {n : Nat} {Q : Exit → (Nat → Value) → World → Prop} {y : Code} (h : ∀ F' : Addr → Value → Prop, More F F' → Knows F' E → cC P n y Q f (Has w0 F' L)) : cC P n y Q f (Has w0 F (E ++ L)) := fun w hw => by
  obtain ⟨h1, h2, h3⟩ := hw.forget
  exact h _ h2 h3 w h1
end
theorem cellsOf_flat (ps : List PayS) : CellsOf (flatC ps).toArray ps := fun j p hj k v hv => by simpa using flatC_get ps j p hj k v hv

/-! the house of 'queues': bank 0 has 9 and pays them to 1, who pays 4 of them to 2 -/
def qPays : List PayS := [⟨0, 1, 9, 0, 1, 1⟩, ⟨1, 2, 4, 0, 1, 0⟩]
def qHouse (pa : Option Addr) : H := { newM with has := up1 newM.has 0 9, next := 2, pa := pa, pl := 2, pc := 2 }
def qS0 : QS := ⟨(qHouse none).core, qPays, []⟩
theorem qSweep : sweepM (qHouse none).core qPays = (qS0.go 0).go 1 := by
  have g : goodB (qHouse none).core qPays = true := by kernel_rfl
  simp only [sweepM, g, cond_true]
  have a1 : firstM qS0.c qS0.ps ((0 : Nat) : Int) = some 0 := by kernel_rfl
  have a2 : firstM (qS0.go 0).c (qS0.go 0).ps ((0 : Nat) : Int) = none := by kernel_rfl
  have a3 : firstM (qS0.go 0).c (qS0.go 0).ps ((1 : Nat) : Int) = some 1 := by kernel_rfl
  have b0 : firstM ((qS0.go 0).go 1).c ((qS0.go 0).go 1).ps ((0 : Nat) : Int) = none := by kernel_rfl
  have b1 : firstM ((qS0.go 0).go 1).c ((qS0.go 0).go 1).ps ((1 : Nat) : Int) = none := by kernel_rfl
  have b2 : firstM ((qS0.go 0).go 1).c ((qS0.go 0).go 1).ps ((2 : Nat) : Int) = none := by kernel_rfl
  have b3 : firstM ((qS0.go 0).go 1).c ((qS0.go 0).go 1).ps ((3 : Nat) : Int) = none := by kernel_rfl
  have d1 : drain ((0 : Nat) : Int) qS0 = qS0.go 0 := (drain_go a1).trans (drain_end a2)
  have d2 : drain ((1 : Nat) : Int) (qS0.go 0) = (qS0.go 0).go 1 := (drain_go a3).trans (drain_end b1)
  show sweepFrom 0 0 qS0 = _
  rw [sweep_busy (by decide) d1 (by decide), sweep_busy (by decide) d2 (by decide), sweep_idle (by decide) (drain_end b2) rfl, sweep_idle (by decide) (drain_end b3) rfl, sweep_idle (by decide) (drain_end b0) rfl, sweep_idle (by decide) (drain_end b1) rfl, sweep_end (by decide)]
theorem qSweep_len : (sweepM (qHouse none).core qPays).xs.length = 2 := by rw [qSweep]; rfl
theorem qSweep_has : (sweepM (qHouse none).core qPays).c.has 1 = 5 := by rw [qSweep]; kernel_rfl
theorem qSweep_rest : queueM (sweepM (qHouse none).core qPays).ps 0 = [] := by rw [qSweep]; kernel_rfl
end Go.Proofs.Ytbajdhahmmfhcaa
/- Acts as bytes: numbers, sums, frames, and what is read of a text. No condition. -/
namespace Go.Proofs.Ytbajdhahmmfhcaa
set_option linter.unusedSimpArgs false
set_option linter.unusedVariables false

structure ActS where
  kind : Int
  a : Int
  b : Int
  c : Int
  n : Int
deriving DecidableEq
def zig (n : Int) : Nat := if n < 0 then (-2 * n - 1).toNat else (2 * n).toNat
def zag (u : Nat) : Int := if u % 2 = 1 then -((u / 2 : Nat) : Int) - 1 else ((u / 2 : Nat) : Int)
theorem zag_zig (n : Int) : zag (zig n) = n := by unfold zag zig; split <;> split <;> omega
def digs (u : Nat) : List Nat := if u < 128 then [u] else (128 + u % 128) :: digs (u / 128)
termination_by u
theorem digs_lo {u : Nat} (h : u < 128) : digs u = [u] := by rw [digs, if_pos h]
theorem digs_hi {u : Nat} (h : ¬ u < 128) : digs u = (128 + u % 128) :: digs (u / 128) := by rw [digs, if_neg h]
theorem digs_byte (u : Nat) : ∀ b ∈ digs u, b < 256 := by
  induction u using Nat.strongRecOn with
  | _ u ih =>
    by_cases h : u < 128
    · rw [digs_lo h]; intro b hb; simp at hb; omega
    · rw [digs_hi h]
      intro b hb
      rcases List.mem_cons.1 hb with rfl | hb
      · omega
      · exact ih (u / 128) (by omega) b hb
theorem digs_len (k : Nat) : ∀ u, u < 128 ^ (k + 1) → (digs u).length ≤ k + 1 := by
  induction k with
  | zero => intro u h; rw [digs_lo (by omega)]; simp
  | succ k ih =>
    intro u h
    by_cases hl : u < 128
    · rw [digs_lo hl]; simp
    · rw [digs_hi hl]
      have := ih (u / 128) (Nat.div_lt_of_lt_mul (by rw [Nat.pow_succ] at h; omega))
      simp only [List.length_cons]; omega
theorem digs_pos (u : Nat) : 1 ≤ (digs u).length := by
  by_cases h : u < 128
  · rw [digs_lo h]; simp
  · rw [digs_hi h]; simp
/-- digits, the least first, up to the first that is the last -/
def undig : Nat → List Nat → Option (Nat × List Nat)
  | 0, _ => none
  | _ + 1, [] => none
  | f + 1, b :: r => if b < 128 then some (b, r) else (undig f r).map fun p => (b - 128 + 128 * p.1, p.2)
theorem undig_digs (f : Nat) : ∀ u r, u < 128 ^ (f + 1) → undig (f + 1) (digs u ++ r) = some (u, r) := by
  induction f with
  | zero => intro u r h; have hl : u < 128 := by omega
            rw [digs_lo hl]; simp [undig, hl]
  | succ f ih =>
    intro u r h
    by_cases hl : u < 128
    · rw [digs_lo hl]; simp [undig, hl]
    · rw [digs_hi hl]
      have := ih (u / 128) r (Nat.div_lt_of_lt_mul (by rw [Nat.pow_succ] at h; omega))
      rw [List.cons_append, undig, if_neg (show ¬ 128 + u % 128 < 128 by omega), this, Option.map_some]
      congr 2
      show 128 + u % 128 - 128 + 128 * (u / 128) = u
      omega
def notedI (n : Int) : Bool := decide (-1073741824 ≤ n) && decide (n ≤ 1073741824)
def noted (x : ActS) : Bool := notedI x.kind && notedI x.a && notedI x.b && notedI x.c && notedI x.n
def bodyOf (x : ActS) : List Nat := digs (zig x.kind) ++ digs (zig x.a) ++ digs (zig x.b) ++ digs (zig x.c) ++ digs (zig x.n)
def sumOf (l : List Nat) : Nat × Nat := l.foldl (fun p b => (p.1 + b, p.2 + (p.1 + b))) (1, 0)
def frameOf (x : ActS) : List Nat := (bodyOf x).length :: (bodyOf x ++ [(sumOf (bodyOf x)).1 % 251, (sumOf (bodyOf x)).2 % 251])
theorem zig_lt {n : Int} (h : notedI n = true) : zig n < 128 ^ 5 := by
  simp [notedI] at h
  unfold zig; split <;> omega
theorem body_len {x : ActS} (h : noted x = true) : 5 ≤ (bodyOf x).length ∧ (bodyOf x).length ≤ 25 := by
  simp only [noted, Bool.and_eq_true] at h
  obtain ⟨⟨⟨⟨h1, h2⟩, h3⟩, h4⟩, h5⟩ := h
  have a1 := digs_len 4 _ (zig_lt h1)
  have a2 := digs_len 4 _ (zig_lt h2)
  have a3 := digs_len 4 _ (zig_lt h3)
  have a4 := digs_len 4 _ (zig_lt h4)
  have a5 := digs_len 4 _ (zig_lt h5)
  have b1 := digs_pos (zig x.kind)
  have b2 := digs_pos (zig x.a)
  have b3 := digs_pos (zig x.b)
  have b4 := digs_pos (zig x.c)
  have b5 := digs_pos (zig x.n)
  simp only [bodyOf, List.length_append]; omega
theorem frame_len (x : ActS) : (frameOf x).length = (bodyOf x).length + 3 := by simp [frameOf]
theorem body_byte (x : ActS) : ∀ b ∈ bodyOf x, b < 256 := by
  intro b hb
  simp only [bodyOf, List.mem_append] at hb
  rcases hb with (((h | h) | h) | h) | h <;> exact digs_byte _ b h
theorem frame_byte {x : ActS} (h : noted x = true) : ∀ b ∈ frameOf x, b < 256 := by
  intro b hb
  have := body_len h
  simp only [frameOf, List.mem_cons, List.mem_append] at hb
  rcases hb with rfl | hb | rfl | rfl | hb
  · omega
  · exact body_byte x b hb
  · omega
  · omega
  · cases hb
/-- the five numbers of a text -/
def parse5 (l : List Nat) : Option (ActS × List Nat) :=
  match undig 7 l with
  | none => none
  | some (u1, l1) => match undig 7 l1 with
    | none => none
    | some (u2, l2) => match undig 7 l2 with
      | none => none
      | some (u3, l3) => match undig 7 l3 with
        | none => none
        | some (u4, l4) => match undig 7 l4 with
          | none => none
          | some (u5, l5) => some (⟨zag u1, zag u2, zag u3, zag u4, zag u5⟩, l5)
theorem zig_lt7 {n : Int} (h : notedI n = true) : zig n < 128 ^ 7 := Nat.lt_of_lt_of_le (zig_lt h) (by decide)
theorem parse_body {x : ActS} (h : noted x = true) (r : List Nat) : parse5 (bodyOf x ++ r) = some (x, r) := by
  simp only [noted, Bool.and_eq_true] at h
  obtain ⟨⟨⟨⟨h1, h2⟩, h3⟩, h4⟩, h5⟩ := h
  simp only [parse5, bodyOf, List.append_assoc]
  rw [undig_digs 6 _ _ (zig_lt7 h1)]
  simp only
  rw [undig_digs 6 _ _ (zig_lt7 h2)]
  simp only
  rw [undig_digs 6 _ _ (zig_lt7 h3)]
  simp only
  rw [undig_digs 6 _ _ (zig_lt7 h4)]
  simp only
  rw [undig_digs 6 _ _ (zig_lt7 h5)]
  simp only [zag_zig]
/-- a frame stands in front of a text -/
def Stands (x : ActS) (l : List Nat) : Prop := noted x = true ∧ frameOf x <+: l
theorem frame_body {x y : ActS} {l : List Nat} (hx : Stands x l) (hy : Stands y l) : x = y := by
  obtain ⟨nx, ⟨r, hr⟩⟩ := hx
  obtain ⟨ny, ⟨s, hs⟩⟩ := hy
  rw [← hs] at hr
  simp only [frameOf, List.cons_append, List.cons.injEq, List.append_assoc] at hr
  have e : bodyOf x ++ ([(sumOf (bodyOf x)).1 % 251, (sumOf (bodyOf x)).2 % 251] ++ r) = bodyOf y ++ ([(sumOf (bodyOf y)).1 % 251, (sumOf (bodyOf y)).2 % 251] ++ s) := by simpa using hr.2
  have h1 := parse_body nx ([(sumOf (bodyOf x)).1 % 251, (sumOf (bodyOf x)).2 % 251] ++ r)
  have h2 := parse_body ny ([(sumOf (bodyOf y)).1 % 251, (sumOf (bodyOf y)).2 % 251] ++ s)
  rw [e, h2] at h1
  simp at h1
  exact h1.1.symm
/-- the act whose frame stands in front, where there is one: the only one that could -/
def first? (l : List Nat) : Option ActS := match l with
  | [] => none
  | k :: r => match parse5 (r.take k) with
    | some (x, []) => if noted x = true ∧ frameOf x <+: l then some x else none
    | _ => none
theorem first_iff (l : List Nat) (x : ActS) : first? l = some x ↔ Stands x l := by
  constructor
  · intro h
    unfold first? at h
    split at h
    · cases h
    · split at h
      · split at h
        · rename_i hh
          simp at h; subst h; exact hh
        · cases h
      · cases h
  · rintro ⟨nx, hp⟩
    obtain ⟨r, hr⟩ := hp
    have hl : l = (bodyOf x).length :: (bodyOf x ++ ([(sumOf (bodyOf x)).1 % 251, (sumOf (bodyOf x)).2 % 251] ++ r)) := by rw [← hr]; simp [frameOf]
    have ht : (bodyOf x ++ ([(sumOf (bodyOf x)).1 % 251, (sumOf (bodyOf x)).2 % 251] ++ r)).take (bodyOf x).length = bodyOf x := List.take_left
    have hpp := parse_body nx []
    rw [List.append_nil] at hpp
    subst hl
    unfold first?
    simp only [ht, hpp]
    rw [if_pos]
    exact ⟨nx, ⟨r, hr⟩⟩
theorem first_none (l : List Nat) : first? l = none ↔ ∀ x, ¬ Stands x l := by
  constructor
  · intro h x hx
    rw [(first_iff l x).2 hx] at h; cases h
  · intro h
    cases hf : first? l with
    | none => rfl
    | some x => exact absurd ((first_iff l x).1 hf) (h x)
/-- what is read of a text -/
def readM (l : List Nat) : List ActS := match h : first? l with
  | none => []
  | some x => x :: readM (l.drop (frameOf x).length)
termination_by l.length
decreasing_by
  have hs := ((first_iff l x).1 h).2.length_le
  have := frame_len x
  simp only [List.length_drop]
  omega
theorem readM_none {l : List Nat} (h : first? l = none) : readM l = [] := by
  rw [readM]
  split
  · rfl
  · rename_i x hx; rw [h] at hx; cases hx
theorem readM_some {l : List Nat} {x : ActS} (h : first? l = some x) : readM l = x :: readM (l.drop (frameOf x).length) := by
  rw [readM]
  split
  · rename_i hx; rw [h] at hx; cases hx
  · rename_i y hy; rw [h] at hy; simp at hy; subst hy; rfl
def bytesOf (xs : List ActS) : List Nat := xs.flatMap frameOf
theorem readM_bytes (l : List Nat) : bytesOf (readM l) <+: l ∧ ∀ x ∈ readM l, noted x = true := by
  generalize hn : l.length = n
  induction n using Nat.strongRecOn generalizing l with
  | _ n ih =>
    cases h : first? l with
    | none => rw [readM_none h]; exact ⟨by simp [bytesOf], by simp⟩
    | some x =>
      rw [readM_some h]
      obtain ⟨nx, r, hr⟩ := (first_iff l x).1 h
      have hfl := frame_len x
      have e : l.drop (frameOf x).length = r := by rw [← hr]; exact List.drop_left
      rw [e]
      have hlen : l.length = (frameOf x).length + r.length := by rw [← hr]; simp
      obtain ⟨h1, h2⟩ := ih r.length (by omega) r rfl
      refine ⟨?_, fun y hy => ?_⟩
      · obtain ⟨s, hs⟩ := h1
        exact ⟨s, by
          show frameOf x ++ bytesOf (readM r) ++ s = l
          rw [List.append_assoc, hs, hr]⟩
      · rcases List.mem_cons.1 hy with rfl | hy
        · exact nx
        · exact h2 y hy
/-- what was written is read, up to where it is cut -/
theorem first_frame {x : ActS} (h : noted x = true) (r : List Nat) : first? (frameOf x ++ r) = some x := (first_iff _ x).2 ⟨h, r, rfl⟩
theorem first_cut {x : ActS} (h : noted x = true) {l : List Nat} (hl : l <+: frameOf x) (hlt : l.length < (frameOf x).length) : first? l = none := by
  rw [first_none]
  rintro y ⟨ny, s, hs⟩
  obtain ⟨r, hr⟩ := hl
  rw [← hs] at hr
  have h1 : (bodyOf y).length = (bodyOf x).length := by
    simp only [frameOf, List.cons_append, List.cons.injEq] at hr
    exact hr.1
  have h2 := frame_len x
  have h3 := frame_len y
  have h4 : l.length = (frameOf y).length + s.length := by rw [← hs]; simp
  omega
theorem readM_frame {x : ActS} (h : noted x = true) (r : List Nat) : readM (frameOf x ++ r) = x :: readM r := by
  rw [readM_some (first_frame h r)]
  congr 2
  exact List.drop_left
theorem readM_cut {x : ActS} (h : noted x = true) {l : List Nat} (hl : l <+: frameOf x) (hlt : l.length < (frameOf x).length) : readM l = [] := readM_none (first_cut h hl hlt)
theorem readM_all : ∀ (xs : List ActS), (∀ x ∈ xs, noted x = true) → ∀ l, (∀ y, ¬ Stands y l) → readM (bytesOf xs ++ l) = xs
  | [], _, l, hl => by simpa [bytesOf] using readM_none ((first_none l).2 hl)
  | x :: r, h, l, hl => by
    have e : bytesOf (x :: r) ++ l = frameOf x ++ (bytesOf r ++ l) := by simp [bytesOf]
    rw [e, readM_frame (h x (by simp)), readM_all r (fun y hy => h y (by simp [hy])) l hl]
theorem readM_self {xs : List ActS} (h : ∀ x ∈ xs, noted x = true) : readM (bytesOf xs) = xs := by
  have := readM_all xs h [] (fun y hy => by
    have h1 : (frameOf y).length ≤ 0 := hy.2.length_le
    have := frame_len y
    omega)
  rwa [List.append_nil] at this
/-- cut anywhere: the frames that are whole -/
def wholes : List ActS → Nat → List ActS
  | [], _ => []
  | x :: r, cut => if (frameOf x).length ≤ cut then x :: wholes r (cut - (frameOf x).length) else []
theorem readM_take : ∀ (xs : List ActS), (∀ x ∈ xs, noted x = true) → ∀ cut, readM ((bytesOf xs).take cut) = wholes xs cut
  | [], _, cut => by simp [bytesOf, wholes]; exact readM_none (by rfl)
  | x :: r, h, cut => by
    have hx := h x (by simp)
    have e : bytesOf (x :: r) = frameOf x ++ bytesOf r := by simp [bytesOf]
    rw [e, wholes]
    by_cases hc : (frameOf x).length ≤ cut
    · rw [if_pos hc, List.take_append, List.take_of_length_le hc, readM_frame hx, readM_take r (fun y hy => h y (by simp [hy]))]
    · rw [if_neg hc, List.take_append, show cut - (frameOf x).length = 0 by omega, List.take_zero, List.append_nil]
      exact readM_cut hx (List.take_prefix _ _) (by rw [List.length_take]; omega)
end Go.Proofs.Ytbajdhahmmfhcaa
/- Texts as lists of bytes: put together, cut, looked into, made of bytes and taken apart; rows of four numbers and acts that come in as arguments. No condition. -/
namespace Go.Proofs.Ytbajdhahmmfhcaa
open Go.RowKit
set_option linter.unusedSimpArgs false
set_option linter.unusedVariables false

def bs (l : List Nat) : ByteArray := ⟨(l.map UInt8.ofNat).toArray⟩
abbrev S (l : List Nat) : Value := .string (bs l)
abbrev U8 (n : Int) : Value := .int .u8 n
def Byt (l : List Nat) : Prop := ∀ b ∈ l, b < 256
theorem bs_size (l : List Nat) : (bs l).size = l.length := by simp [bs, ByteArray.size]
theorem bs_append (l m : List Nat) : bs (l ++ m) = bs l ++ bs m := by
  apply ByteArray.ext
  simp [bs, ByteArray.data_append]
theorem bs_toList (l : List Nat) : (bs l).toList = l.map UInt8.ofNat := by unfold bs; rw [ByteArray.toList_mk]
theorem u8_inj {a b : Nat} (ha : a < 256) (hb : b < 256) (h : UInt8.ofNat a = UInt8.ofNat b) : a = b := by
  have := congrArg UInt8.toNat h
  simp [UInt8.toNat_ofNat] at this
  omega
theorem map_u8_inj : ∀ {l m : List Nat}, Byt l → Byt m → l.map UInt8.ofNat = m.map UInt8.ofNat → l = m
  | [], [], _, _, _ => rfl
  | [], _ :: _, _, _, h => by simp at h
  | _ :: _, [], _, _, h => by simp at h
  | a :: l, b :: m, hl, hm, h => by
    simp only [List.map_cons, List.cons.injEq] at h
    rw [u8_inj (hl a (by simp)) (hm b (by simp)) h.1, map_u8_inj (fun x hx => hl x (by simp [hx])) (fun x hx => hm x (by simp [hx])) h.2]
theorem bs_inj {l m : List Nat} (hl : Byt l) (hm : Byt m) : bs l = bs m ↔ l = m :=
  ⟨fun h => map_u8_inj hl hm (by have := congrArg ByteArray.toList h; rwa [bs_toList, bs_toList] at this), fun h => by rw [h]⟩
theorem bs_of (s : ByteArray) : ∃ l, Byt l ∧ s = bs l := by
  refine ⟨s.data.toList.map UInt8.toNat, fun b hb => ?_, ?_⟩
  · obtain ⟨x, _, rfl⟩ := List.mem_map.1 hb
    exact x.toNat_lt
  · apply ByteArray.ext
    have e : (UInt8.ofNat ∘ UInt8.toNat) = id := funext fun x => by simp
    simp [bs, e]
theorem bs_get {l : List Nat} {i b : Nat} (h : l[i]? = some b) (hb : b < 256) : ∃ hi : i < (bs l).size, ((bs l)[i]'hi).toNat = b := by
  obtain ⟨hi, e⟩ := List.getElem?_eq_some_iff.1 h
  refine ⟨by rw [bs_size]; exact hi, ?_⟩
  show ((l.map UInt8.ofNat).toArray[i]'(by simpa using hi)).toNat = b
  simp [e]
  omega
theorem bs_extract (l : List Nat) (i j : Nat) : (bs l).extract i j = bs ((l.take j).drop i) := by
  apply ByteArray.ext
  simp only [ByteArray.data_extract, bs]
  apply Array.ext_getElem?
  intro k
  simp only [Array.getElem?_extract, List.size_toArray, List.length_map, List.getElem?_toArray, List.getElem?_map, List.getElem?_drop, List.getElem?_take]
  by_cases h1 : k < min j l.length - i
  · rw [if_pos h1, if_pos (by omega)]
  · rw [if_neg h1]
    by_cases h2 : i + k < j
    · rw [if_pos h2, List.getElem?_eq_none (by omega)]; rfl
    · rw [if_neg h2]; rfl
theorem Byt.drop {l : List Nat} (h : Byt l) (n : Nat) : Byt (l.drop n) := fun b hb => h b (List.mem_of_mem_drop hb)
theorem Byt.take {l : List Nat} (h : Byt l) (n : Nat) : Byt (l.take n) := fun b hb => h b (List.mem_of_mem_take hb)
theorem Byt.append {l m : List Nat} (h : Byt l) (h' : Byt m) : Byt (l ++ m) := fun b hb => (List.mem_append.1 hb).elim (h b) (h' b)
theorem byt_nil : Byt [] := fun b hb => by cases hb

def strB (P : Program) (T : TypeId) : Bool := match P.underlying T with
  | some .string => true
  | _ => false
theorem strB_spec {P : Program} {T : TypeId} (h : strB P T = true) : P.underlying T = some .string := by
  unfold strB at h
  split at h
  · assumption
  · cases h
def bytesB (P : Program) (T : TypeId) : Bool := match P.underlying T with
  | some (.slice e) => (match P.underlying e with | some (.int .u8) => true | _ => false)
  | _ => false
theorem bytesB_spec {P : Program} {T : TypeId} (h : bytesB P T = true) : ∃ e, P.underlying T = some (.slice e) ∧ P.underlying e = some (.int .u8) := by
  unfold bytesB at h
  split at h
  · rename_i e hu
    split at h
    · rename_i he; exact ⟨e, hu, he⟩
    · cases h
  · cases h
def kindB (P : Program) (S T : TypeId) (k : IntKind) : Bool := (P.underlying S).isSome && (match P.underlying T with | some (.int k') => decide (k' = k) | _ => false)
section
variable {P : Program} {f : Nat → Value} {C : World → Prop} {dst : Option Nat} {ty : TypeId} {pos : String} {af : Array Edge} {gd : Option (Nat × Bool)}
theorem v_convK {x : Operand} {Sx T : TypeId} {k k' : IntKind} {n : Int} (hT : kindB P Sx T k = true) (hx : ev f x = .int k' n) : Val P f C ⟨dst, .convert Sx T x, ty, pos, af, gd⟩ (.int k (k.wrap n)) := by
  refine ⟨fun w _ => ?_⟩
  unfold kindB at hT
  simp only [Bool.and_eq_true] at hT
  obtain ⟨h1, h2⟩ := hT
  split at h2
  · rename_i k2 hu
    have e := of_decide_eq_true h2
    subst e
    have hk : P.intKind T = k2 := by simp [Program.intKind, hu]
    have := run_convert_int (P := P) w Sx T k' n h1 (by rw [hk]; exact hu)
    simp [execOp, hx, this, hk]
  · cases h2
theorem u8_wrap {n : Int} (h : 0 ≤ n ∧ n < 256) : IntKind.u8.wrap n = n := by
  simp [IntKind.wrap, IntKind.bits, IntKind.signed]; omega
theorem v_toU8 {x : Operand} {Sx T : TypeId} {n : Int} (hT : kindB P Sx T .u8 = true) (hx : ev f x = I n) (h : 0 ≤ n ∧ n < 256) : Val P f C ⟨dst, .convert Sx T x, ty, pos, af, gd⟩ (U8 n) := by
  have := v_convK (P := P) (f := f) (C := C) (dst := dst) (ty := ty) (pos := pos) (af := af) (gd := gd) (k := .u8) hT hx
  rwa [u8_wrap h] at this
theorem v_ofU8 {x : Operand} {Sx T : TypeId} {n : Int} (hT : kindB P Sx T .i64 = true) (hx : ev f x = U8 n) (h : 0 ≤ n ∧ n < 256) : Val P f C ⟨dst, .convert Sx T x, ty, pos, af, gd⟩ (I n) := by
  have := v_convK (P := P) (f := f) (C := C) (dst := dst) (ty := ty) (pos := pos) (af := af) (gd := gd) (k := .i64) hT hx
  rwa [show IntKind.i64.wrap n = n from wr_in (by omega) (by omega)] at this
theorem v_u8geq {x y : Operand} {t t' : TypeId} {a b : Int} (hx : ev f x = U8 a) (hy : ev f y = U8 b) : Val P f C ⟨dst, .binOp .geq t x y t', ty, pos, af, gd⟩ (.bool (decide (b ≤ a))) := v_geq hx hy
theorem v_u8sub {x y : Operand} {t t' : TypeId} {a b : Int} (hx : ev f x = U8 a) (hy : ev f y = U8 b) (h : 0 ≤ a - b ∧ a - b < 256) : Val P f C ⟨dst, .binOp .sub t x y t', ty, pos, af, gd⟩ (U8 (a - b)) := by
  have := v_subk (P := P) (f := f) (C := C) (dst := dst) (ty := ty) (pos := pos) (af := af) (gd := gd) (t := t) (t' := t') hx hy
  rwa [u8_wrap h] at this
theorem v_strAdd {x y : Operand} {t t' : TypeId} {a b : List Nat} (hx : ev f x = S a) (hy : ev f y = S b) (h : a.length + b.length ≤ 9223372036854775807) : Val P f C ⟨dst, .binOp .add t x y t', ty, pos, af, gd⟩ (S (a ++ b)) := by
  refine ⟨fun w _ => ?_⟩
  have := run_string_add_sum (P := P) (w := w) (bs a) (bs b) (by rw [bs_size, bs_size]; exact h)
  rw [← bs_append] at this
  simp [execOp, hx, hy, eqGuard, binOp, this]
theorem v_strEq {x y : Operand} {t t' : TypeId} {a b : List Nat} (hx : ev f x = S a) (hy : ev f y = S b) (ha : Byt a) (hb : Byt b) : Val P f C ⟨dst, .binOp .eql t x y t', ty, pos, af, gd⟩ (.bool (decide (a = b))) := by
  refine ⟨fun w _ => ?_⟩
  have e : ((bs a).toList == (bs b).toList) = decide (a = b) := by
    rw [bs_toList, bs_toList, Bool.eq_iff_iff, beq_iff_eq, decide_eq_true_iff]
    exact ⟨map_u8_inj ha hb, fun h => by rw [h]⟩
  simp [execOp, hx, hy, eqGuard, binOp, Op.stringOp, e]
theorem v_strNe {x y : Operand} {t t' : TypeId} {a b : List Nat} (hx : ev f x = S a) (hy : ev f y = S b) (ha : Byt a) (hb : Byt b) : Val P f C ⟨dst, .binOp .neq t x y t', ty, pos, af, gd⟩ (.bool (!decide (a = b))) := by
  refine ⟨fun w _ => ?_⟩
  have e : ((bs a).toList == (bs b).toList) = decide (a = b) := by
    rw [bs_toList, bs_toList, Bool.eq_iff_iff, beq_iff_eq, decide_eq_true_iff]
    exact ⟨map_u8_inj ha hb, fun h => by rw [h]⟩
  simp [execOp, hx, hy, eqGuard, binOp, Op.stringOp, e]
theorem v_strLen {x : Operand} {T : TypeId} {ats : Array TypeId} {a : List Nat} (hT : strB P T = true) (ha : ats = #[T]) (hx : ev f x = S a) : Val P f C ⟨dst, .call ⟨.builtin .len, #[x], ats⟩, ty, pos, af, gd⟩ (I a.length) := by
  refine ⟨fun w _ => ?_⟩
  subst ha
  have := run_len_string (P := P) w T ty (bs a) (strB_spec hT)
  simp [execOp, resolve, invoke, builtin, hx, this, bs_size, goInt]
theorem v_strIdx {x y : Operand} {T : TypeId} {k : IntKind} {a : List Nat} {i : Int} {b : Nat} (hT : strB P T = true) (hx : ev f x = S a) (hy : ev f y = .int k i) (h0 : 0 ≤ i) (hi : a[i.toNat]? = some b) (hb : b < 256) : Val P f C ⟨dst, .index T x y, ty, pos, af, gd⟩ (U8 b) := by
  refine ⟨fun w _ => ?_⟩
  obtain ⟨hlt, e⟩ := bs_get hi hb
  have := run_index_string (P := P) w T (bs a) k i (strB_spec hT)
  rw [dif_pos ⟨h0, by omega⟩] at this
  simp [execOp, hx, hy, this, e]
theorem v_strLo {x y : Operand} {T : TypeId} {k : IntKind} {a : List Nat} {i : Int} (hT : strB P T = true) (hx : ev f x = S a) (hy : ev f y = .int k i) (hi : 0 ≤ i ∧ i ≤ a.length) : Val P f C ⟨dst, .slice T x (some y) none none, ty, pos, af, gd⟩ (S (a.drop i.toNat)) := by
  refine ⟨fun w _ => ?_⟩
  have := run_slice_string_from_if (P := P) w T (bs a) k i (strB_spec hT)
  rw [if_pos ⟨hi.1, by rw [bs_size]; exact hi.2⟩, bs_size, bs_extract, List.take_of_length_le (Nat.le_refl _)] at this
  simp [execOp, hx, hy, Instr.sliceAt, run_underlying (strB_spec hT), this]
theorem v_strHi {x y : Operand} {T : TypeId} {k : IntKind} {a : List Nat} {i : Int} (hT : strB P T = true) (hx : ev f x = S a) (hy : ev f y = .int k i) (hi : 0 ≤ i ∧ i ≤ a.length) : Val P f C ⟨dst, .slice T x none (some y) none, ty, pos, af, gd⟩ (S (a.take i.toNat)) := by
  refine ⟨fun w _ => ?_⟩
  have := run_slice_string_to_if (P := P) w T (bs a) k i (strB_spec hT)
  rw [if_pos ⟨hi.1, by rw [bs_size]; exact hi.2⟩, bs_extract, List.drop_zero] at this
  simp [execOp, hx, hy, Instr.sliceAt, run_underlying (strB_spec hT), this]
/-- bytes that stand in memory, as a text -/
theorem run_strOf {w : World} {Sx T : TypeId} {b o c : Nat} {l : List Nat} (hS : bytesB P Sx = true) (hT : strB P T = true) (hb : Byt l) (hc : ∀ j n : Nat, l[j]? = some n → w.cell? ⟨b, o + j, none⟩ = some (U8 n)) :
    (convert Sx T (.slice (some ⟨b, o, none⟩) l.length c)).run P w = .ok (S l) w := by
  obtain ⟨e, h1, h2⟩ := bytesB_spec hS
  have := run_convert_bytes_back (P := P) w Sx T e ⟨b, o, none⟩ c (l.map UInt8.ofNat) h1 h2 (strB_spec hT) (fun j hj => by
    have hj' : j < l.length := by simpa using hj
    rw [add_off, hc j l[j] (by simp [hj'])]
    have := hb l[j] (List.getElem_mem hj')
    simp
    omega)
  rw [List.length_map] at this
  exact this
variable {ops : Array Oper} {K : (Nat → Value) → World → Prop} {rest : List Oper} {d : Nat} {w0 : World} {F : Addr → Value → Prop} {L : List (Nat × Obj)}
theorem v_strOf {x : Operand} {Sx T b c t : Nat} {fr : Nat × Nat} {cs : Array Value} {n : Nat} {l : List Nat} (hS : bytesB P Sx = true) (hT : strB P T = true) (hx : ev f x = .slice (some ⟨b, 0, none⟩) n c) (hn : n = l.length) (hl : Look L b (.cells cs t fr)) (hb : Byt l) (hc : ∀ j m : Nat, l[j]? = some m → cs[j]? = some (U8 m)) :
    Val P f (Has w0 F L) ⟨dst, .convert Sx T x, ty, pos, af, gd⟩ (S l) := by
  refine ⟨fun w hw => ?_⟩
  subst hn
  have := run_strOf (P := P) (w := w) (b := b) (o := 0) (c := c) hS hT hb (fun j m hj => by rw [Nat.zero_add, cell_has hw hl]; exact hc j m hj)
  simp [execOp, hx, this]
/-- a text as bytes of the call's own -/
theorem s_bytesOf {x : Operand} {Sx T : TypeId} {l : List Nat} (hS : strB P Sx = true) (hT : bytesB P T = true) (hx : ev f x = S l) (hb : Byt l)
    (kk : ∀ (b c : Nat) (cs : Array Value) (e : TypeId) (fr : Nat × Nat), l.length ≤ c → (∀ (j m : Nat), l[j]? = some m → cs[j]? = some (U8 m)) → sC P ops K rest (upd f d (.slice (some ⟨b, 0, none⟩) l.length c)) (Has w0 F ((b, .cells cs e fr) :: L))) :
    sC P ops K (⟨some d, .convert Sx T x, ty, pos, af, none⟩ :: rest) f (Has w0 F L) := by
  intro w hw
  obtain ⟨e, h1, h2⟩ := bytesB_spec hT
  have := run_bytes_of_string (P := P) w Sx T e (bs l) (strB_spec hS) h1 h2
  unfold sw
  rw [if_pos wanted_free]
  unfold opk
  have hr : ∀ v w', (convert Sx T (.string (bs l))).run P w = .ok v w' → (execOp (ev f) ⟨some d, .convert Sx T x, ty, pos, af, none⟩).run P w = .ok (.value v) w' := fun v w' h => by
    simp [execOp, hx, h]
  rw [hr _ _ this, bs_size]
  refine kk _ _ _ _ _ (grownCap_ge w _ _ _) (fun j m hj => ?_) _ (hw.drew.alloc _)
  obtain ⟨hjl, e'⟩ := List.getElem?_eq_some_iff.1 hj
  have hm := hb m (by rw [← e']; exact List.getElem_mem hjl)
  unfold bytesRow
  rw [Array.getElem?_append_left (by simp [bs, hjl])]
  simp [bs, hjl, e']
  omega
/-- a function with two results in slots -/
theorem n_doneT {fn : Func} {n t t2 : Nat} {v : Value} (hr : fn.results = #[.tmp t, .tmp t2]) (ht : t < n) (ht2 : t2 < n) (hv : .tuple #[f t, f t2] = v) :
    nC (retQ P fn n (fun v' w' => v' = v ∧ Bel w0.heap.size w0 w')) .ret f (Has w0 F L) := fun w hw => by
  refine ⟨.tuple #[f t, f t2], ?_, hv, hw.1⟩
  have e : (Fa n f).tmps[t]?.getD undef = f t := by simp [Fa, ht]
  have e2 : (Fa n f).tmps[t2]?.getD undef = f t2 := by simp [Fa, ht2]
  simp [results, hr, e, e2]
theorem n_doneTF {fn : Func} {n t t2 : Nat} {R : (Addr → Value → Prop) → Value → Prop} (hr : fn.results = #[.tmp t, .tmp t2]) (ht : t < n) (ht2 : t2 < n) (hv : ∀ w, Has w0 F L w → R (Fresh w0 w) (.tuple #[f t, f t2])) :
    nC (retQ P fn n (fun v w' => Bel w0.heap.size w0 w' ∧ R (Fresh w0 w') v)) .ret f (Has w0 F L) := fun w hw => by
  refine ⟨.tuple #[f t, f t2], ?_, hw.1, hv w hw⟩
  have e : (Fa n f).tmps[t]?.getD undef = f t := by simp [Fa, ht]
  have e2 : (Fa n f).tmps[t2]?.getD undef = f t2 := by simp [Fa, ht2]
  simp [results, hr, e, e2]
end
/-! acts -/
def ActS.cells (x : ActS) : Array Value := #[I x.kind, I x.a, I x.b, I x.c, I x.n]
theorem ActS.size (x : ActS) : x.cells.size = 5 := rfl
theorem ActS.all1 (x : ActS) : x.cells.all (·.oneCell') = true := by simp [ActS.cells, Value.oneCell']
theorem fill_one {v : Value} {m : Nat} (hs : v.cells.size = m) (z : Array Value) (hz : z.size = m) : Instr.fill (fun i => some (i * m, m)) ((Array.range (1 * m)).map (z[· % z.size]!)) [(0, v)] = some v.cells := by
  have hsz : ((Array.range (1 * m)).map (z[· % z.size]!)).size = m := by simp
  generalize (Array.range (1 * m)).map (z[· % z.size]!) = cs at hsz
  simp only [Instr.fill, Nat.zero_mul, Nat.zero_add]
  rw [if_neg (by simp [hs, hsz])]
  congr 1
  have key : ∀ (l : List Value) (k : Nat) (a : Array Value), ((l.zipIdx k).foldl (fun cs (p : Value × Nat) => cs.setIfInBounds p.2 p.1) a).size = a.size ∧ ∀ j, ((l.zipIdx k).foldl (fun cs (p : Value × Nat) => cs.setIfInBounds p.2 p.1) a)[j]? = if k ≤ j ∧ j < k + l.length ∧ j < a.size then l[j - k]? else a[j]? := by
    intro l
    induction l with
    | nil => intro k a; exact ⟨rfl, fun j => by rw [if_neg (by simp; omega)]; rfl⟩
    | cons x r ih =>
      intro k a
      simp only [List.zipIdx_cons, List.foldl_cons]
      obtain ⟨h1, h2⟩ := ih (k + 1) (a.setIfInBounds k x)
      refine ⟨by rw [h1]; simp, fun j => ?_⟩
      rw [h2 j]
      simp only [Array.size_setIfInBounds, List.length_cons]
      by_cases hj : j = k
      · subst hj
        rw [if_neg (by omega)]
        by_cases hlt : j < a.size
        · rw [if_pos ⟨by omega, by omega, hlt⟩]; simp [hlt]
        · rw [if_neg (by omega)]; simp [hlt]
      · by_cases hc : k + 1 ≤ j ∧ j < k + 1 + r.length ∧ j < a.size
        · rw [if_pos hc, if_pos ⟨by omega, by omega, hc.2.2⟩, show j - k = (j - (k + 1)) + 1 by omega, List.getElem?_cons_succ]
        · rw [if_neg hc, if_neg (by omega), Array.getElem?_setIfInBounds_ne (Ne.symm hj)]
  have := key v.cells.toList 0 cs
  have e : v.cells.zipIdx.foldl (fun cs (p : Value × Nat) => cs.setIfInBounds (0 + p.2) p.1) cs = (v.cells.toList.zipIdx 0).foldl (fun cs (p : Value × Nat) => cs.setIfInBounds p.2 p.1) cs := by
    rw [← Array.foldl_toList]
    simp
  simp only [Nat.zero_add] at e
  rw [e]
  apply Array.ext_getElem?
  intro j
  rw [this.2 j]
  by_cases hj : j < m
  · rw [if_pos ⟨by omega, by simp [hs]; exact hj, by omega⟩]; simp
  · rw [if_neg (by simp [hs]; omega), Array.getElem?_eq_none (by omega), Array.getElem?_eq_none (by omega)]
end Go.Proofs.Ytbajdhahmmfhcaa
/- Sums of bytes, step by step; numbers as digits, taken one by one. No condition. -/
namespace Go.Proofs.Ytbajdhahmmfhcaa
open Go.RowKit
set_option linter.unusedSimpArgs false
set_option linter.unusedVariables false

theorem sum_snoc (l : List Nat) (b : Nat) : sumOf (l ++ [b]) = ((sumOf l).1 + b, (sumOf l).2 + ((sumOf l).1 + b)) := by simp [sumOf, List.foldl_append]
theorem sum_step {l : List Nat} {k b : Nat} (h : l[k]? = some b) : sumOf (l.take (k + 1)) = ((sumOf (l.take k)).1 + b, (sumOf (l.take k)).2 + ((sumOf (l.take k)).1 + b)) := by
  rw [List.take_add_one, h]
  exact sum_snoc _ b
theorem sum_bound {l : List Nat} (hb : Byt l) : ∀ k, (sumOf (l.take k)).1 ≤ 1 + 255 * k ∧ (sumOf (l.take k)).2 ≤ k * (1 + 255 * k)
  | 0 => by simp [sumOf]
  | k + 1 => by
    have ih := sum_bound hb k
    cases h : l[k]? with
    | none =>
      rw [List.take_add_one, h]
      simp only [Option.toList_none, List.append_nil]
      refine ⟨by omega, Nat.le_trans ih.2 ?_⟩
      exact Nat.mul_le_mul (by omega) (by omega)
    | some b =>
      have hb' := hb b (List.mem_of_getElem? h)
      rw [sum_step h]
      refine ⟨by simp only; omega, ?_⟩
      simp only
      have e : (k + 1) * (1 + 255 * (k + 1)) = k * (1 + 255 * k) + k * 255 + (1 + 255 * (k + 1)) := by
        rw [Nat.add_mul, Nat.one_mul, show 1 + 255 * (k + 1) = (1 + 255 * k) + 255 by omega, Nat.mul_add]
      omega
theorem tmod_nat (a b : Nat) : ((a : Int)).tmod (b : Int) = ((a % b : Nat) : Int) := by rw [Int.tmod_eq_emod_of_nonneg (by omega)]; omega
theorem tdiv_nat (a b : Nat) : ((a : Int)).tdiv (b : Int) = ((a / b : Nat) : Int) := by rw [Int.tdiv_eq_ediv_of_nonneg (by omega)]; omega
theorem byt_two {a b : Nat} (ha : a < 256) (hb : b < 256) : Byt [a, b] := fun x hx => by simp at hx; omega
theorem byt_one {a : Nat} (ha : a < 256) : Byt [a] := fun x hx => by simp at hx; omega
theorem cells_one (a : Nat) : ∀ j m : Nat, [a][j]? = some m → (#[U8 (a : Int)] : Array Value)[j]? = some (U8 m) := by
  intro j m h
  cases j with
  | zero => simp at h; subst h; rfl
  | succ j => simp at h
theorem cells_two (a b : Nat) : ∀ j m : Nat, [a, b][j]? = some m → (#[U8 (a : Int), U8 (b : Int)] : Array Value)[j]? = some (U8 m) := by
  intro j m h
  match j with
  | 0 => simp at h; subst h; rfl
  | 1 => simp at h; subst h; rfl
  | j + 2 => simp at h
theorem zig_neg {n : Int} (h : n < 0) : -2 * n - 1 = ((zig n : Nat) : Int) := by unfold zig; rw [if_pos h]; omega
theorem zig_pos {n : Int} (h : ¬ n < 0) : 2 * n = ((zig n : Nat) : Int) := by unfold zig; rw [if_neg h]; omega
theorem notedI_iff {n : Int} : notedI n = true ↔ -1073741824 ≤ n ∧ n ≤ 1073741824 := by simp [notedI]
theorem noted_all {x : ActS} (h : noted x = true) : notedI x.kind = true ∧ notedI x.a = true ∧ notedI x.b = true ∧ notedI x.c = true ∧ notedI x.n = true := by
  simp only [noted, Bool.and_eq_true] at h
  exact ⟨h.1.1.1.1, h.1.1.1.2, h.1.1.2, h.1.2, h.2⟩
theorem digs_len5 {n : Int} (h : notedI n = true) : (digs (zig n)).length ≤ 5 := digs_len 4 _ (zig_lt h)
end Go.Proofs.Ytbajdhahmmfhcaa
/- Steps of a region that draws its order: a byte made a list, and a list of one byte made a text. No condition. -/
namespace Go.Proofs.Ytbajdhahmmfhcaa
open Go.RowKit
set_option linter.unusedSimpArgs false
set_option linter.unusedVariables false

def Byte1 (n : Nat) : (Addr → Value → Prop) → Value → Prop := fun F v => ∃ b, v = .slice (some ⟨b, 0, none⟩) 1 1 ∧ F ⟨b, 0, none⟩ (U8 n)
theorem byte1_mono (n : Nat) : Mono (Byte1 n) := by
  rintro F F' v hm ⟨b, h1, h2⟩
  exact ⟨b, h1, hm _ _ h2⟩
section
variable {P : Program} {T : Nat → (Addr → Value → Prop) → Value → Prop} {d : Nat} {ty : TypeId} {pos : String} {af : Array Edge} {gd : Option (Nat × Bool)} {g : Nat → Value} {w : World}
theorem x_build1 {Ts e by_ : Nat} {x : Operand} {n : Nat} (hT : rowB P Ts e 1 by_ = true) (hx : ev g x = U8 n) (ht : ∀ w' v, Byte1 n (At w') v → T d (At w') v) : Ox P T d (.buildSlice Ts 1 #[(0, x)]) ty pos af gd g w := by
  obtain ⟨i, z, hu, hi, h1, h2, h3, h4⟩ := rowB_spec hT
  have hr0 : (Instr.buildSlice Ts 1 #[(0, U8 n)]).run P w = .ok (.slice (some ⟨w.heap.size, 0, none⟩) 1 1) (w.alloc (.cells #[U8 n] e)) := by
    have hz : Instr.fill (fun i => some (i * 1, 1)) ((Array.range (1 * 1)).map (z.cells[· % z.cells.size]!)) [(0, U8 n)] = some #[U8 n] := fill_scalar (v := U8 n) rfl z.cells h4
    simp [Instr.buildSlice, run_underlying hu, sizeOf, typeInfo, zeroValue, hi, h3, newRow, h1]
    simp only [Nat.one_mul] at hz
    have hz' : Instr.fill (fun i => some (i, 1)) (Array.map (fun x => z.cells[x % z.cells.size]!) (Array.range 1)) [(0, U8 ↑n)] = some #[U8 ↑n] := by simpa using hz
    simp [hz']
  unfold Ox opk
  have hr : (execOp (ev g) ⟨some d, .buildSlice Ts 1 #[(0, x)], ty, pos, af, gd⟩).run P w = .ok (.value (.slice (some ⟨w.heap.size, 0, none⟩) 1 1)) (w.alloc (.cells #[U8 n] e)) := by
    simp [execOp, hx, hr0]
  rw [hr]
  refine ⟨_, rfl, (Bel.refl _ _).alloc (Nat.le_refl _) _, fun e' he => ?_⟩
  simp at he; subst he
  refine ht _ _ ⟨w.heap.size, rfl, ?_⟩
  have hh : (w.alloc (.cells #[U8 n] e)).heap[w.heap.size]? = some (.cells #[U8 n] e (0, 0)) := by
    show (w.heap.push _)[w.heap.size]? = _
    simp
  show (w.alloc (.cells #[U8 n] e)).cell? ⟨w.heap.size, 0, none⟩ = _
  rw [cell_of_row _ _ 0 #[U8 n] e (0, 0) hh]
  rfl
theorem x_strOf {Sx Tx b n : Nat} {x : Operand} (hS : bytesB P Sx = true) (hT : strB P Tx = true) (hn : n < 256) (hx : ev g x = .slice (some ⟨b, 0, none⟩) 1 1) (hc : At w ⟨b, 0, none⟩ (U8 n)) (ht : T d (At w) (S [n])) : Ox P T d (.convert Sx Tx x) ty pos af gd g w := by
  have := run_strOf (P := P) (w := w) (b := b) (o := 0) (c := 1) (l := [n]) hS hT (byt_one hn) (fun j m hj => by
    cases j with
    | zero => simp at hj; subst hj; exact hc
    | succ j => simp at hj)
  unfold Ox opk
  have hr : (execOp (ev g) ⟨some d, .convert Sx Tx x, ty, pos, af, gd⟩).run P w = .ok (.value (S [n])) w := by
    have h1 : (convert Sx Tx (.slice (some ⟨b, 0, none⟩) 1 1)).run P w = .ok (S [n]) w := this
    simp [execOp, hx, h1]
  rw [hr]
  exact ⟨_, rfl, Bel.refl _ _, fun e he => by simp at he; subst he; exact ht⟩
end
end Go.Proofs.Ytbajdhahmmfhcaa
/- Contracts of the document side of numbers as bytes. Condition: numbers that may be written down. -/
namespace Go.Proofs.Ytbajdhahmmfhcaa
open Go.RowKit
set_option linter.unusedSimpArgs false
set_option linter.unusedVariables false
set_option maxRecDepth 100000
attribute [local irreducible] cC sC nC rC qw

theorem gr_IsNoted (a : ActS) (w : World) : Gives Try.prog 54 [.agg a.cells] w (.bool (noted a)) := by
  refine gives_of Try.func54 rfl Try.ntmps54 (by simp) ?_
  refine r_seq (by kernel_rfl) ?_
  refine s_box (v := .agg _) rfl (fun b1 => ?_)
  refine s_val (v_assign (v := .bool _) rfl) ?_
  refine s_nil ?_
  refine r_seq (by kernel_rfl) ?_
  refine s_val (v_assign (v := .bool _) rfl) ?_
  refine s_nil ?_
  refine c_seq ?_
  refine r_seq (by kernel_rfl) ?_
  refine s_val (v_field (fo := 0) (by kernel_rfl) rfl) ?_
  refine s_val (v_load1 (v := .int .i64 _) (by kernel_rfl) rfl .here rfl) ?_
  refine s_val (v_field (fo := 1) (by kernel_rfl) rfl) ?_
  refine s_val (v_load1 (v := .int .i64 _) (by kernel_rfl) rfl .here rfl) ?_
  refine s_val (v_field (fo := 2) (by kernel_rfl) rfl) ?_
  refine s_val (v_load1 (v := .int .i64 _) (by kernel_rfl) rfl .here rfl) ?_
  refine s_val (v_field (fo := 3) (by kernel_rfl) rfl) ?_
  refine s_val (v_load1 (v := .int .i64 _) (by kernel_rfl) rfl .here rfl) ?_
  refine s_val (v_field (fo := 4) (by kernel_rfl) rfl) ?_
  refine s_val (v_load1 (v := .int .i64 _) (by kernel_rfl) rfl .here rfl) ?_
  refine s_buildS (e := 3) (vs := [(0, .int .i64 _), (1, .int .i64 _), (2, .int .i64 _), (3, .int .i64 _), (4, .int .i64 _)]) (cs := #[I a.kind, I a.a, I a.b, I a.c, I a.n]) rfl (by kernel_rfl) (fun b16 => ?_)
  refine s_val (v_lenS (T := 43) (m := 1) (by kernel_rfl) rfl rfl) ?_
  refine s_val (v_move (v := .int .i64 _) rfl) ?_
  refine s_nil ?_
  refine c_block ?_
  refine c_rounds 6 ?_
  refine r_succ ?_
  refine r_seq (by kernel_rfl) ?_
  refine s_val (v_lss (k := .i64) rfl rfl) ?_
  refine s_nil ?_
  refine c_seq ?_
  refine c_condTh rfl rfl rfl ?_
  refine c_skip ?_
  refine n_then ?_
  refine c_seq ?_
  refine c_block ?_
  refine r_seq (by kernel_rfl) ?_
  refine s_val (v_idxS (size := 1) (k := .i64) (by kernel_rfl) rfl rfl (by decide)) ?_
  refine s_val (v_load1 (v := .int .i64 _) (by kernel_rfl) rfl .here rfl) ?_
  refine s_val (v_assign (v := .int .i64 _) rfl) ?_
  refine s_nil ?_
  refine r_list (by kernel_rfl) ?_
  refine s_val (v_move (v := .bool _) rfl) ?_
  refine s_val (v_move (v := .bool _) rfl) ?_
  refine s_want rfl rfl rfl ?_
  refine s_val (v_move (v := .int .i64 _) rfl) ?_
  refine s_want rfl rfl rfl ?_
  refine s_call (by kernel_rfl) (fun w hw => gr_within _ _ _ w) ?_
  refine s_val (v_pickT (v := .bool _) rfl rfl rfl) ?_
  refine s_val (v_assign (v := .bool _) rfl) ?_
  refine s_end ?_
  refine n_bnormal ?_
  refine n_then ?_
  refine r_list (by kernel_rfl) ?_
  refine s_val (v_addL (c := 1) rfl rfl (by decide) (by decide)) ?_
  refine s_val (v_move (v := .int .i64 _) rfl) ?_
  refine s_end ?_
  refine n_thenR ?_
  refine r_succ ?_
  refine r_seq (by kernel_rfl) ?_
  refine s_val (v_lss (k := .i64) rfl rfl) ?_
  refine s_nil ?_
  refine c_seq ?_
  refine c_condTh rfl rfl rfl ?_
  refine c_skip ?_
  refine n_then ?_
  refine c_seq ?_
  refine c_block ?_
  refine r_seq (by kernel_rfl) ?_
  refine s_val (v_idxS (size := 1) (k := .i64) (by kernel_rfl) rfl rfl (by decide)) ?_
  refine s_val (v_load1 (v := .int .i64 _) (by kernel_rfl) rfl .here rfl) ?_
  refine s_val (v_assign (v := .int .i64 _) rfl) ?_
  refine s_nil ?_
  refine r_list (by kernel_rfl) ?_
  refine s_val (v_move (v := .bool _) rfl) ?_
  refine s_val (v_move (v := .bool _) rfl) ?_
  refine s_splitR (s := 23) rfl (fun h23 => ?_) (fun h23 => ?_)
  · refine s_pass rfl rfl h23 ?_
    refine s_pass rfl rfl h23 ?_
    refine s_val (v_pickF (v := .bool _) rfl h23 rfl) ?_
    refine s_val (v_assign (v := .bool _) rfl) ?_
    refine s_end ?_
    refine n_bnormal ?_
    refine n_then ?_
    refine r_list (by kernel_rfl) ?_
    refine s_val (v_addL (c := 2) rfl rfl (by decide) (by decide)) ?_
    refine s_val (v_move (v := .int .i64 _) rfl) ?_
    refine s_end ?_
    refine n_thenR ?_
    refine r_succ ?_
    refine r_seq (by kernel_rfl) ?_
    refine s_val (v_lss (k := .i64) rfl rfl) ?_
    refine s_nil ?_
    refine c_seq ?_
    refine c_condTh rfl rfl rfl ?_
    refine c_skip ?_
    refine n_then ?_
    refine c_seq ?_
    refine c_block ?_
    refine r_seq (by kernel_rfl) ?_
    refine s_val (v_idxS (size := 1) (k := .i64) (by kernel_rfl) rfl rfl (by decide)) ?_
    refine s_val (v_load1 (v := .int .i64 _) (by kernel_rfl) rfl .here rfl) ?_
    refine s_val (v_assign (v := .int .i64 _) rfl) ?_
    refine s_nil ?_
    refine r_list (by kernel_rfl) ?_
    refine s_val (v_move (v := .bool _) rfl) ?_
    refine s_val (v_move (v := .bool _) rfl) ?_
    refine s_pass (g := false) rfl rfl rfl ?_
    refine s_pass (g := false) rfl rfl rfl ?_
    refine s_val (v_pickF (v := .bool _) rfl rfl rfl) ?_
    refine s_val (v_assign (v := .bool _) rfl) ?_
    refine s_end ?_
    refine n_bnormal ?_
    refine n_then ?_
    refine r_list (by kernel_rfl) ?_
    refine s_val (v_addL (c := 3) rfl rfl (by decide) (by decide)) ?_
    refine s_val (v_move (v := .int .i64 _) rfl) ?_
    refine s_end ?_
    refine n_thenR ?_
    refine r_succ ?_
    refine r_seq (by kernel_rfl) ?_
    refine s_val (v_lss (k := .i64) rfl rfl) ?_
    refine s_nil ?_
    refine c_seq ?_
    refine c_condTh rfl rfl rfl ?_
    refine c_skip ?_
    refine n_then ?_
    refine c_seq ?_
    refine c_block ?_
    refine r_seq (by kernel_rfl) ?_
    refine s_val (v_idxS (size := 1) (k := .i64) (by kernel_rfl) rfl rfl (by decide)) ?_
    refine s_val (v_load1 (v := .int .i64 _) (by kernel_rfl) rfl .here rfl) ?_
    refine s_val (v_assign (v := .int .i64 _) rfl) ?_
    refine s_nil ?_
    refine r_list (by kernel_rfl) ?_
    refine s_val (v_move (v := .bool _) rfl) ?_
    refine s_val (v_move (v := .bool _) rfl) ?_
    refine s_pass (g := false) rfl rfl rfl ?_
    refine s_pass (g := false) rfl rfl rfl ?_
    refine s_val (v_pickF (v := .bool _) rfl rfl rfl) ?_
    refine s_val (v_assign (v := .bool _) rfl) ?_
    refine s_end ?_
    refine n_bnormal ?_
    refine n_then ?_
    refine r_list (by kernel_rfl) ?_
    refine s_val (v_addL (c := 4) rfl rfl (by decide) (by decide)) ?_
    refine s_val (v_move (v := .int .i64 _) rfl) ?_
    refine s_end ?_
    refine n_thenR ?_
    refine r_succ ?_
    refine r_seq (by kernel_rfl) ?_
    refine s_val (v_lss (k := .i64) rfl rfl) ?_
    refine s_nil ?_
    refine c_seq ?_
    refine c_condTh rfl rfl rfl ?_
    refine c_skip ?_
    refine n_then ?_
    refine c_seq ?_
    refine c_block ?_
    refine r_seq (by kernel_rfl) ?_
    refine s_val (v_idxS (size := 1) (k := .i64) (by kernel_rfl) rfl rfl (by decide)) ?_
    refine s_val (v_load1 (v := .int .i64 _) (by kernel_rfl) rfl .here rfl) ?_
    refine s_val (v_assign (v := .int .i64 _) rfl) ?_
    refine s_nil ?_
    refine r_list (by kernel_rfl) ?_
    refine s_val (v_move (v := .bool _) rfl) ?_
    refine s_val (v_move (v := .bool _) rfl) ?_
    refine s_pass (g := false) rfl rfl rfl ?_
    refine s_pass (g := false) rfl rfl rfl ?_
    refine s_val (v_pickF (v := .bool _) rfl rfl rfl) ?_
    refine s_val (v_assign (v := .bool _) rfl) ?_
    refine s_end ?_
    refine n_bnormal ?_
    refine n_then ?_
    refine r_list (by kernel_rfl) ?_
    refine s_val (v_addL (c := 5) rfl rfl (by decide) (by decide)) ?_
    refine s_val (v_move (v := .int .i64 _) rfl) ?_
    refine s_end ?_
    refine n_thenR ?_
    refine r_succ ?_
    refine r_seq (by kernel_rfl) ?_
    refine s_val (v_lss (k := .i64) rfl rfl) ?_
    refine s_nil ?_
    refine c_seq ?_
    refine c_condFh rfl rfl rfl ?_
    refine c_exit ?_
    refine n_exit ?_
    refine n_exit ?_
    refine n_bhere ?_
    refine n_then ?_
    refine r_seq (by kernel_rfl) ?_
    refine s_val (v_move (v := .bool _) rfl) ?_
    refine s_val (v_assign (v := .bool _) rfl) ?_
    refine s_nil ?_
    refine c_ret ?_
    refine n_done rfl (by decide) (Eq.trans (b := .bool _) rfl (congrArg Value.bool ?_))
    simp only [noted, show ∀ n : Int, notedI n = withinB n (-1073741824) 1073741824 from fun _ => rfl, *, Bool.true_and, Bool.false_and, Bool.and_true, Bool.and_false, Bool.not_true, Bool.not_false, Bool.true_or, Bool.or_true, Bool.false_or, Bool.or_false, cond_true, cond_false, if_true, if_false, Bool.false_eq_true, decide_true, decide_false]
  refine s_want rfl rfl h23 ?_
  refine s_val (v_move (v := .int .i64 _) rfl) ?_
  refine s_want rfl rfl h23 ?_
  refine s_call (by kernel_rfl) (fun w hw => gr_within _ _ _ w) ?_
  refine s_val (v_pickT (v := .bool _) rfl h23 rfl) ?_
  refine s_val (v_assign (v := .bool _) rfl) ?_
  refine s_end ?_
  refine n_bnormal ?_
  refine n_then ?_
  refine r_list (by kernel_rfl) ?_
  refine s_val (v_addL (c := 2) rfl rfl (by decide) (by decide)) ?_
  refine s_val (v_move (v := .int .i64 _) rfl) ?_
  refine s_end ?_
  refine n_thenR ?_
  refine r_succ ?_
  refine r_seq (by kernel_rfl) ?_
  refine s_val (v_lss (k := .i64) rfl rfl) ?_
  refine s_nil ?_
  refine c_seq ?_
  refine c_condTh rfl rfl rfl ?_
  refine c_skip ?_
  refine n_then ?_
  refine c_seq ?_
  refine c_block ?_
  refine r_seq (by kernel_rfl) ?_
  refine s_val (v_idxS (size := 1) (k := .i64) (by kernel_rfl) rfl rfl (by decide)) ?_
  refine s_val (v_load1 (v := .int .i64 _) (by kernel_rfl) rfl .here rfl) ?_
  refine s_val (v_assign (v := .int .i64 _) rfl) ?_
  refine s_nil ?_
  refine r_list (by kernel_rfl) ?_
  refine s_val (v_move (v := .bool _) rfl) ?_
  refine s_val (v_move (v := .bool _) rfl) ?_
  refine s_splitR (s := 23) rfl (fun h23 => ?_) (fun h23 => ?_)
  · refine s_pass rfl rfl h23 ?_
    refine s_pass rfl rfl h23 ?_
    refine s_val (v_pickF (v := .bool _) rfl h23 rfl) ?_
    refine s_val (v_assign (v := .bool _) rfl) ?_
    refine s_end ?_
    refine n_bnormal ?_
    refine n_then ?_
    refine r_list (by kernel_rfl) ?_
    refine s_val (v_addL (c := 3) rfl rfl (by decide) (by decide)) ?_
    refine s_val (v_move (v := .int .i64 _) rfl) ?_
    refine s_end ?_
    refine n_thenR ?_
    refine r_succ ?_
    refine r_seq (by kernel_rfl) ?_
    refine s_val (v_lss (k := .i64) rfl rfl) ?_
    refine s_nil ?_
    refine c_seq ?_
    refine c_condTh rfl rfl rfl ?_
    refine c_skip ?_
    refine n_then ?_
    refine c_seq ?_
    refine c_block ?_
    refine r_seq (by kernel_rfl) ?_
    refine s_val (v_idxS (size := 1) (k := .i64) (by kernel_rfl) rfl rfl (by decide)) ?_
    refine s_val (v_load1 (v := .int .i64 _) (by kernel_rfl) rfl .here rfl) ?_
    refine s_val (v_assign (v := .int .i64 _) rfl) ?_
    refine s_nil ?_
    refine r_list (by kernel_rfl) ?_
    refine s_val (v_move (v := .bool _) rfl) ?_
    refine s_val (v_move (v := .bool _) rfl) ?_
    refine s_pass (g := false) rfl rfl rfl ?_
    refine s_pass (g := false) rfl rfl rfl ?_
    refine s_val (v_pickF (v := .bool _) rfl rfl rfl) ?_
    refine s_val (v_assign (v := .bool _) rfl) ?_
    refine s_end ?_
    refine n_bnormal ?_
    refine n_then ?_
    refine r_list (by kernel_rfl) ?_
    refine s_val (v_addL (c := 4) rfl rfl (by decide) (by decide)) ?_
    refine s_val (v_move (v := .int .i64 _) rfl) ?_
    refine s_end ?_
    refine n_thenR ?_
    refine r_succ ?_
    refine r_seq (by kernel_rfl) ?_
    refine s_val (v_lss (k := .i64) rfl rfl) ?_
    refine s_nil ?_
    refine c_seq ?_
    refine c_condTh rfl rfl rfl ?_
    refine c_skip ?_
    refine n_then ?_
    refine c_seq ?_
    refine c_block ?_
    refine r_seq (by kernel_rfl) ?_
    refine s_val (v_idxS (size := 1) (k := .i64) (by kernel_rfl) rfl rfl (by decide)) ?_
    refine s_val (v_load1 (v := .int .i64 _) (by kernel_rfl) rfl .here rfl) ?_
    refine s_val (v_assign (v := .int .i64 _) rfl) ?_
    refine s_nil ?_
    refine r_list (by kernel_rfl) ?_
    refine s_val (v_move (v := .bool _) rfl) ?_
    refine s_val (v_move (v := .bool _) rfl) ?_
    refine s_pass (g := false) rfl rfl rfl ?_
    refine s_pass (g := false) rfl rfl rfl ?_
    refine s_val (v_pickF (v := .bool _) rfl rfl rfl) ?_
    refine s_val (v_assign (v := .bool _) rfl) ?_
    refine s_end ?_
    refine n_bnormal ?_
    refine n_then ?_
    refine r_list (by kernel_rfl) ?_
    refine s_val (v_addL (c := 5) rfl rfl (by decide) (by decide)) ?_
    refine s_val (v_move (v := .int .i64 _) rfl) ?_
    refine s_end ?_
    refine n_thenR ?_
    refine r_succ ?_
    refine r_seq (by kernel_rfl) ?_
    refine s_val (v_lss (k := .i64) rfl rfl) ?_
    refine s_nil ?_
    refine c_seq ?_
    refine c_condFh rfl rfl rfl ?_
    refine c_exit ?_
    refine n_exit ?_
    refine n_exit ?_
    refine n_bhere ?_
    refine n_then ?_
    refine r_seq (by kernel_rfl) ?_
    refine s_val (v_move (v := .bool _) rfl) ?_
    refine s_val (v_assign (v := .bool _) rfl) ?_
    refine s_nil ?_
    refine c_ret ?_
    refine n_done rfl (by decide) (Eq.trans (b := .bool _) rfl (congrArg Value.bool ?_))
    simp only [noted, show ∀ n : Int, notedI n = withinB n (-1073741824) 1073741824 from fun _ => rfl, *, Bool.true_and, Bool.false_and, Bool.and_true, Bool.and_false, Bool.not_true, Bool.not_false, Bool.true_or, Bool.or_true, Bool.false_or, Bool.or_false, cond_true, cond_false, if_true, if_false, Bool.false_eq_true, decide_true, decide_false]
  refine s_want rfl rfl h23 ?_
  refine s_val (v_move (v := .int .i64 _) rfl) ?_
  refine s_want rfl rfl h23 ?_
  refine s_call (by kernel_rfl) (fun w hw => gr_within _ _ _ w) ?_
  refine s_val (v_pickT (v := .bool _) rfl h23 rfl) ?_
  refine s_val (v_assign (v := .bool _) rfl) ?_
  refine s_end ?_
  refine n_bnormal ?_
  refine n_then ?_
  refine r_list (by kernel_rfl) ?_
  refine s_val (v_addL (c := 3) rfl rfl (by decide) (by decide)) ?_
  refine s_val (v_move (v := .int .i64 _) rfl) ?_
  refine s_end ?_
  refine n_thenR ?_
  refine r_succ ?_
  refine r_seq (by kernel_rfl) ?_
  refine s_val (v_lss (k := .i64) rfl rfl) ?_
  refine s_nil ?_
  refine c_seq ?_
  refine c_condTh rfl rfl rfl ?_
  refine c_skip ?_
  refine n_then ?_
  refine c_seq ?_
  refine c_block ?_
  refine r_seq (by kernel_rfl) ?_
  refine s_val (v_idxS (size := 1) (k := .i64) (by kernel_rfl) rfl rfl (by decide)) ?_
  refine s_val (v_load1 (v := .int .i64 _) (by kernel_rfl) rfl .here rfl) ?_
  refine s_val (v_assign (v := .int .i64 _) rfl) ?_
  refine s_nil ?_
  refine r_list (by kernel_rfl) ?_
  refine s_val (v_move (v := .bool _) rfl) ?_
  refine s_val (v_move (v := .bool _) rfl) ?_
  refine s_splitR (s := 23) rfl (fun h23 => ?_) (fun h23 => ?_)
  · refine s_pass rfl rfl h23 ?_
    refine s_pass rfl rfl h23 ?_
    refine s_val (v_pickF (v := .bool _) rfl h23 rfl) ?_
    refine s_val (v_assign (v := .bool _) rfl) ?_
    refine s_end ?_
    refine n_bnormal ?_
    refine n_then ?_
    refine r_list (by kernel_rfl) ?_
    refine s_val (v_addL (c := 4) rfl rfl (by decide) (by decide)) ?_
    refine s_val (v_move (v := .int .i64 _) rfl) ?_
    refine s_end ?_
    refine n_thenR ?_
    refine r_succ ?_
    refine r_seq (by kernel_rfl) ?_
    refine s_val (v_lss (k := .i64) rfl rfl) ?_
    refine s_nil ?_
    refine c_seq ?_
    refine c_condTh rfl rfl rfl ?_
    refine c_skip ?_
    refine n_then ?_
    refine c_seq ?_
    refine c_block ?_
    refine r_seq (by kernel_rfl) ?_
    refine s_val (v_idxS (size := 1) (k := .i64) (by kernel_rfl) rfl rfl (by decide)) ?_
    refine s_val (v_load1 (v := .int .i64 _) (by kernel_rfl) rfl .here rfl) ?_
    refine s_val (v_assign (v := .int .i64 _) rfl) ?_
    refine s_nil ?_
    refine r_list (by kernel_rfl) ?_
    refine s_val (v_move (v := .bool _) rfl) ?_
    refine s_val (v_move (v := .bool _) rfl) ?_
    refine s_pass (g := false) rfl rfl rfl ?_
    refine s_pass (g := false) rfl rfl rfl ?_
    refine s_val (v_pickF (v := .bool _) rfl rfl rfl) ?_
    refine s_val (v_assign (v := .bool _) rfl) ?_
    refine s_end ?_
    refine n_bnormal ?_
    refine n_then ?_
    refine r_list (by kernel_rfl) ?_
    refine s_val (v_addL (c := 5) rfl rfl (by decide) (by decide)) ?_
    refine s_val (v_move (v := .int .i64 _) rfl) ?_
    refine s_end ?_
    refine n_thenR ?_
    refine r_succ ?_
    refine r_seq (by kernel_rfl) ?_
    refine s_val (v_lss (k := .i64) rfl rfl) ?_
    refine s_nil ?_
    refine c_seq ?_
    refine c_condFh rfl rfl rfl ?_
    refine c_exit ?_
    refine n_exit ?_
    refine n_exit ?_
    refine n_bhere ?_
    refine n_then ?_
    refine r_seq (by kernel_rfl) ?_
    refine s_val (v_move (v := .bool _) rfl) ?_
    refine s_val (v_assign (v := .bool _) rfl) ?_
    refine s_nil ?_
    refine c_ret ?_
    refine n_done rfl (by decide) (Eq.trans (b := .bool _) rfl (congrArg Value.bool ?_))
    simp only [noted, show ∀ n : Int, notedI n = withinB n (-1073741824) 1073741824 from fun _ => rfl, *, Bool.true_and, Bool.false_and, Bool.and_true, Bool.and_false, Bool.not_true, Bool.not_false, Bool.true_or, Bool.or_true, Bool.false_or, Bool.or_false, cond_true, cond_false, if_true, if_false, Bool.false_eq_true, decide_true, decide_false]
  refine s_want rfl rfl h23 ?_
  refine s_val (v_move (v := .int .i64 _) rfl) ?_
  refine s_want rfl rfl h23 ?_
  refine s_call (by kernel_rfl) (fun w hw => gr_within _ _ _ w) ?_
  refine s_val (v_pickT (v := .bool _) rfl h23 rfl) ?_
  refine s_val (v_assign (v := .bool _) rfl) ?_
  refine s_end ?_
  refine n_bnormal ?_
  refine n_then ?_
  refine r_list (by kernel_rfl) ?_
  refine s_val (v_addL (c := 4) rfl rfl (by decide) (by decide)) ?_
  refine s_val (v_move (v := .int .i64 _) rfl) ?_
  refine s_end ?_
  refine n_thenR ?_
  refine r_succ ?_
  refine r_seq (by kernel_rfl) ?_
  refine s_val (v_lss (k := .i64) rfl rfl) ?_
  refine s_nil ?_
  refine c_seq ?_
  refine c_condTh rfl rfl rfl ?_
  refine c_skip ?_
  refine n_then ?_
  refine c_seq ?_
  refine c_block ?_
  refine r_seq (by kernel_rfl) ?_
  refine s_val (v_idxS (size := 1) (k := .i64) (by kernel_rfl) rfl rfl (by decide)) ?_
  refine s_val (v_load1 (v := .int .i64 _) (by kernel_rfl) rfl .here rfl) ?_
  refine s_val (v_assign (v := .int .i64 _) rfl) ?_
  refine s_nil ?_
  refine r_list (by kernel_rfl) ?_
  refine s_val (v_move (v := .bool _) rfl) ?_
  refine s_val (v_move (v := .bool _) rfl) ?_
  refine s_splitR (s := 23) rfl (fun h23 => ?_) (fun h23 => ?_)
  · refine s_pass rfl rfl h23 ?_
    refine s_pass rfl rfl h23 ?_
    refine s_val (v_pickF (v := .bool _) rfl h23 rfl) ?_
    refine s_val (v_assign (v := .bool _) rfl) ?_
    refine s_end ?_
    refine n_bnormal ?_
    refine n_then ?_
    refine r_list (by kernel_rfl) ?_
    refine s_val (v_addL (c := 5) rfl rfl (by decide) (by decide)) ?_
    refine s_val (v_move (v := .int .i64 _) rfl) ?_
    refine s_end ?_
    refine n_thenR ?_
    refine r_succ ?_
    refine r_seq (by kernel_rfl) ?_
    refine s_val (v_lss (k := .i64) rfl rfl) ?_
    refine s_nil ?_
    refine c_seq ?_
    refine c_condFh rfl rfl rfl ?_
    refine c_exit ?_
    refine n_exit ?_
    refine n_exit ?_
    refine n_bhere ?_
    refine n_then ?_
    refine r_seq (by kernel_rfl) ?_
    refine s_val (v_move (v := .bool _) rfl) ?_
    refine s_val (v_assign (v := .bool _) rfl) ?_
    refine s_nil ?_
    refine c_ret ?_
    refine n_done rfl (by decide) (Eq.trans (b := .bool _) rfl (congrArg Value.bool ?_))
    simp only [noted, show ∀ n : Int, notedI n = withinB n (-1073741824) 1073741824 from fun _ => rfl, *, Bool.true_and, Bool.false_and, Bool.and_true, Bool.and_false, Bool.not_true, Bool.not_false, Bool.true_or, Bool.or_true, Bool.false_or, Bool.or_false, cond_true, cond_false, if_true, if_false, Bool.false_eq_true, decide_true, decide_false]
  refine s_want rfl rfl h23 ?_
  refine s_val (v_move (v := .int .i64 _) rfl) ?_
  refine s_want rfl rfl h23 ?_
  refine s_call (by kernel_rfl) (fun w hw => gr_within _ _ _ w) ?_
  refine s_val (v_pickT (v := .bool _) rfl h23 rfl) ?_
  refine s_val (v_assign (v := .bool _) rfl) ?_
  refine s_end ?_
  refine n_bnormal ?_
  refine n_then ?_
  refine r_list (by kernel_rfl) ?_
  refine s_val (v_addL (c := 5) rfl rfl (by decide) (by decide)) ?_
  refine s_val (v_move (v := .int .i64 _) rfl) ?_
  refine s_end ?_
  refine n_thenR ?_
  refine r_succ ?_
  refine r_seq (by kernel_rfl) ?_
  refine s_val (v_lss (k := .i64) rfl rfl) ?_
  refine s_nil ?_
  refine c_seq ?_
  refine c_condFh rfl rfl rfl ?_
  refine c_exit ?_
  refine n_exit ?_
  refine n_exit ?_
  refine n_bhere ?_
  refine n_then ?_
  refine r_seq (by kernel_rfl) ?_
  refine s_val (v_move (v := .bool _) rfl) ?_
  refine s_val (v_assign (v := .bool _) rfl) ?_
  refine s_nil ?_
  refine c_ret ?_
  refine n_done rfl (by decide) (Eq.trans (b := .bool _) rfl (congrArg Value.bool ?_))
  simp only [noted, show ∀ n : Int, notedI n = withinB n (-1073741824) 1073741824 from fun _ => rfl, *, Bool.true_and, Bool.false_and, Bool.and_true, Bool.and_false, Bool.not_true, Bool.not_false, Bool.true_or, Bool.or_true, Bool.false_or, Bool.or_false, cond_true, cond_false, if_true, if_false, Bool.false_eq_true, decide_true, decide_false]

theorem gr_sums (l : List Nat) (w : World) (hb : Byt l) (hl : l.length ≤ 1000) : Gives Try.prog 80 [S l] w (S [(sumOf l).1 % 251, (sumOf l).2 % 251]) := by
  refine gives_of Try.func80 rfl Try.ntmps80 (by simp) ?_
  refine r_seq (by kernel_rfl) ?_
  refine s_val (v_assign (v := S []) rfl) ?_
  refine s_nil ?_
  refine r_seq (by kernel_rfl) ?_
  refine s_val (v_assign (v := .int .i64 _) rfl) ?_
  refine s_val (v_assign (v := .int .i64 _) rfl) ?_
  refine s_nil ?_
  refine c_seq ?_
  refine r_seq (by kernel_rfl) ?_
  refine s_val (v_move (v := S _) rfl) ?_
  refine s_bytesOf (by kernel_rfl) (by kernel_rfl) rfl hb (fun b8 c8 cs8 e8 fr8 hc8 hcs8 => ?_)
  refine s_val (v_lenS (T := 84) (m := 1) (by kernel_rfl) rfl rfl) ?_
  refine s_val (v_move (v := .int .i64 _) rfl) ?_
  refine s_nil ?_
  refine c_block ?_
  refine c_loop (σ := Nat) (fun (k : Nat) f => ∃ g, (k ≤ l.length) ∧ f = (upd (upd (upd (upd (upd g 3 (I (sumOf (l.take k)).1)) 4 (I (sumOf (l.take k)).2)) 8 (.slice (some ⟨b8, 0, none⟩) l.length c8)) 9 (I l.length)) 10 (I k))) (fun (k : Nat) => Has w (At w) [(b8, .cells cs8 e8 fr8)]) (fun (k : Nat) => l.length - k) 0 ⟨_, Nat.zero_le _, live5 rfl rfl rfl rfl rfl⟩ (fun w hw => hw) ?_
  rintro k _ ⟨g, hkl0, rfl⟩
  refine r_seq (by kernel_rfl) ?_
  refine s_val (v_lss (k := .i64) rfl rfl) ?_
  refine s_nil ?_
  refine c_seq ?_
  refine c_condR rfl rfl (fun h11 => ?_) (fun h11 => ?_)
  · have hkl : k = l.length := by have := of_decide_eq_false h11; omega
    subst hkl
    rw [List.take_of_length_le (Nat.le_refl _)]
    refine c_exit ?_
    refine n_exit ?_
    refine n_exit ?_
    refine n_bhere ?_
    refine n_then ?_
    refine r_seq (by kernel_rfl) ?_
    refine s_val (v_move (v := .int .i64 _) rfl) ?_
    refine s_val (v_rem (c := (((sumOf l).1 % 251 : Nat) : Int)) rfl rfl (by decide) (tmod_nat _ 251)) ?_
    refine s_val (v_toU8 (by kernel_rfl) rfl ⟨by omega, by omega⟩) ?_
    refine s_val (v_move (v := .int .i64 _) rfl) ?_
    refine s_val (v_rem (c := (((sumOf l).2 % 251 : Nat) : Int)) rfl rfl (by decide) (tmod_nat _ 251)) ?_
    refine s_val (v_toU8 (by kernel_rfl) rfl ⟨by omega, by omega⟩) ?_
    refine s_buildS (e := 5) (vs := [(0, .int .u8 _), (1, .int .u8 _)]) (cs := #[U8 (((sumOf l).1 % 251 : Nat) : Int), U8 (((sumOf l).2 % 251 : Nat) : Int)]) rfl (by kernel_rfl) (fun b28 => ?_)
    refine s_val (v_strOf (l := [(sumOf l).1 % 251, (sumOf l).2 % 251]) (by kernel_rfl) (by kernel_rfl) rfl rfl .here (byt_two (by omega) (by omega)) (cells_two _ _)) ?_
    refine s_val (v_assign (v := S _) rfl) ?_
    refine s_nil ?_
    refine c_ret ?_
    exact n_done rfl (by decide) rfl
  have hk0 := of_decide_eq_true h11
  obtain ⟨m, hm⟩ : ∃ m, l[k]? = some m := ⟨l[k]'(by omega), List.getElem?_eq_getElem (by omega)⟩
  have hm256 := hb m (List.mem_of_getElem? hm)
  have hsb := sum_bound hb k
  have hkk : k * (1 + 255 * k) ≤ 1000 * (1 + 255 * 1000) := Nat.mul_le_mul (by omega) (by omega)
  have hss := sum_step hm
  refine c_skip ?_
  refine n_then ?_
  refine c_seq ?_
  refine c_block ?_
  refine r_seq (by kernel_rfl) ?_
  refine s_val (v_idxS (size := 1) (k := .i64) (by kernel_rfl) rfl rfl ⟨by omega, by omega⟩) ?_
  refine s_val (v_load1 (v := U8 m) (by kernel_rfl) rfl .here (by simpa using hcs8 k m hm)) ?_
  refine s_val (v_assign (v := .int .u8 _) rfl) ?_
  refine s_nil ?_
  refine r_seq (by kernel_rfl) ?_
  refine s_val (v_move (v := .int .i64 _) rfl) ?_
  refine s_val (v_move (v := .int .u8 _) rfl) ?_
  refine s_val (v_ofU8 (by kernel_rfl) rfl ⟨by omega, by omega⟩) ?_
  refine s_val (v_add rfl rfl (by omega)) ?_
  refine s_val (v_assign (v := .int .i64 _) rfl) ?_
  refine s_nil ?_
  refine r_list (by kernel_rfl) ?_
  refine s_val (v_move (v := .int .i64 _) rfl) ?_
  refine s_val (v_move (v := .int .i64 _) rfl) ?_
  refine s_val (v_add rfl rfl (by omega)) ?_
  refine s_val (v_assign (v := .int .i64 _) rfl) ?_
  refine s_end ?_
  refine n_bnormal ?_
  refine n_then ?_
  refine r_list (by kernel_rfl) ?_
  refine s_val (v_add rfl rfl (by omega)) ?_
  refine s_val (v_move (v := .int .i64 _) rfl) ?_
  refine s_end ?_
  refine n_round (k + 1) ⟨_, (by omega), live5 (congrArg I (by rw [hss]; rfl)) (congrArg I (by rw [hss]; push_cast; rfl)) rfl rfl rfl⟩ (fun _ hw => hw) (by omega)

theorem gr_numberText (n : Int) (w : World) (hn : notedI n = true) : Gives Try.prog 79 [I n] w (S (digs (zig n))) := by
  have hn2 := notedI_iff.1 hn
  have hz5 := zig_lt hn
  refine gives_of Try.func79 rfl Try.ntmps79 (by simp) ?_
  refine r_seq (by kernel_rfl) ?_
  refine s_val (v_assign (v := S []) rfl) ?_
  refine s_nil ?_
  refine r_seq (by kernel_rfl) ?_
  refine s_val (v_move (v := .int .i64 _) rfl) ?_
  refine s_val (v_mul rfl rfl (by omega)) ?_
  refine s_val (v_assign (v := .int .i64 _) rfl) ?_
  refine s_nil ?_
  refine c_seq ?_
  refine r_seq (by kernel_rfl) ?_
  refine s_val (v_move (v := .int .i64 _) rfl) ?_
  refine s_val (v_lss (k := .i64) rfl rfl) ?_
  refine s_nil ?_
  refine c_condR rfl rfl (fun h8 => ?_) (fun h8 => ?_)
  · rw [zig_pos (of_decide_eq_false h8)]
    refine c_skip ?_
    refine n_then ?_
    refine c_seq ?_
    refine r_seq (by kernel_rfl) ?_
    refine s_val (v_move (v := .int .i64 _) rfl) ?_
    refine s_val (v_lss (k := .i64) rfl rfl) ?_
    refine s_nil ?_
    refine c_cond rfl rfl (fun h13 => ?_) (fun h13 => ?_)
    · have hlo := of_decide_eq_true h13
      refine r_seq (by kernel_rfl) ?_
      refine s_val (v_move (v := .int .i64 _) rfl) ?_
      refine s_val (v_toU8 (by kernel_rfl) rfl ⟨by omega, by omega⟩) ?_
      refine s_build1 (v := .int .u8 _) (e := 5) (m := 1) (by_ := 1) (by kernel_rfl) rfl rfl rfl (fill_scalar rfl) (fun b16 => ?_)
      refine s_val (v_strOf (l := [zig n]) (by kernel_rfl) (by kernel_rfl) rfl rfl .here (byt_one (by omega)) (cells_one _)) ?_
      refine s_val (v_assign (v := S _) rfl) ?_
      refine s_nil ?_
      refine c_ret ?_
      refine n_ret ?_
      exact n_done rfl (by decide) (congrArg S (digs_lo (by omega)).symm)
    have hhi := of_decide_eq_false h13
    refine c_skip ?_
    refine n_then ?_
    refine r_seq (by kernel_rfl) ?_
    refine s_val (v_assign (v := S []) rfl) ?_
    refine s_nil ?_
    refine c_seq ?_
    refine c_block ?_
    refine c_loop (σ := Nat × List Nat) (fun ((u, s) : Nat × List Nat) f => ∃ g, (digs (zig n) = s ++ digs u ∧ u < 128 ^ 5 ∧ s.length + (digs u).length ≤ 5) ∧ f = (upd (upd g 3 (I (u : Int))) 4 (S s))) (fun ((u, s) : Nat × List Nat) => Has w (At w) []) (fun ((u, s) : Nat × List Nat) => u) (zig n, []) ⟨_, ⟨rfl, hz5, by simpa using digs_len5 hn⟩, live2 rfl rfl⟩ (fun w hw => hw) ?_
    rintro ⟨u, s⟩ _ ⟨g, ⟨hdg, hu5, hsl⟩, rfl⟩
    refine c_seq ?_
    refine r_seq (by kernel_rfl) ?_
    refine s_val (v_move (v := .int .i64 _) rfl) ?_
    refine s_val (v_geq (k := .i64) rfl rfl) ?_
    refine s_nil ?_
    refine c_condR rfl rfl (fun h19 => ?_) (fun h19 => ?_)
    · have hu := of_decide_eq_false h19
      refine c_exit ?_
      refine n_exit ?_
      refine n_exit ?_
      refine n_bhere ?_
      refine n_then ?_
      refine r_seq (by kernel_rfl) ?_
      refine s_val (v_move (v := S _) rfl) ?_
      refine s_val (v_move (v := .int .i64 _) rfl) ?_
      refine s_val (v_toU8 (by kernel_rfl) rfl ⟨by omega, by omega⟩) ?_
      refine s_build1 (v := .int .u8 _) (e := 5) (m := 1) (by_ := 1) (by kernel_rfl) rfl rfl rfl (fill_scalar rfl) (fun b33 => ?_)
      refine s_val (v_strOf (l := [u]) (by kernel_rfl) (by kernel_rfl) rfl rfl .here (byt_one (by omega)) (cells_one _)) ?_
      refine s_val (v_strAdd rfl rfl (by simp only [List.length_cons, List.length_nil]; omega)) ?_
      refine s_val (v_assign (v := S _) rfl) ?_
      refine s_nil ?_
      refine c_ret ?_
      exact n_done rfl (by decide) (congrArg S (by rw [hdg, digs_lo (by omega)]))
    have hu := of_decide_eq_true h19
    refine c_skip ?_
    refine n_then ?_
    refine c_block ?_
    refine r_seq (by kernel_rfl) ?_
    refine s_val (v_move (v := S _) rfl) ?_
    refine s_val (v_move (v := .int .i64 _) rfl) ?_
    refine s_val (v_rem (c := ((u % 128 : Nat) : Int)) rfl rfl (by decide) (tmod_nat _ 128)) ?_
    refine s_val (v_add rfl rfl (by omega)) ?_
    refine s_val (v_toU8 (by kernel_rfl) rfl ⟨by omega, by omega⟩) ?_
    refine s_build1 (v := .int .u8 _) (e := 5) (m := 1) (by_ := 1) (by kernel_rfl) rfl rfl rfl (fill_scalar rfl) (fun b25 => ?_)
    refine s_val (v_strOf (l := [128 + u % 128]) (by kernel_rfl) (by kernel_rfl) rfl rfl .here (byt_one (by omega)) (cells_one _)) ?_
    refine s_val (v_strAdd rfl rfl (by simp only [List.length_cons, List.length_nil]; omega)) ?_
    refine s_val (v_assign (v := S _) rfl) ?_
    refine s_nil ?_
    refine r_list (by kernel_rfl) ?_
    refine s_val (v_move (v := .int .i64 _) rfl) ?_
    refine s_val (v_quo (c := ((u / 128 : Nat) : Int)) rfl rfl (by decide) (by rw [show ((u : Nat) : Int).tdiv 128 = ((u / 128 : Nat) : Int) from tdiv_nat u 128]; exact wr_in (by omega) (by omega))) ?_
    refine s_val (v_assign (v := .int .i64 _) rfl) ?_
    refine s_end ?_
    refine n_bnormal ?_
    refine n_round (s := (u, s)) (u / 128, s ++ [128 + u % 128]) ⟨_, ⟨by rw [hdg, digs_hi (by omega)]; simp, by omega, by rw [digs_hi (by omega)] at hsl; simp only [List.length_append, List.length_cons, List.length_nil] at hsl ⊢; omega⟩, live2 rfl rfl⟩ (fun _ hw => hw.tail) (by simp only; omega)
  have hneg := of_decide_eq_true h8
  refine r_list (by kernel_rfl) ?_
  refine s_val (v_move (v := .int .i64 _) rfl) ?_
  refine s_val (v_mul rfl rfl (by omega)) ?_
  refine s_val (v_sub rfl rfl (by omega)) ?_
  refine s_val (v_assign (v := .int .i64 _) rfl) ?_
  refine s_end ?_
  rw [zig_neg hneg]
  refine n_then ?_
  refine c_seq ?_
  refine r_seq (by kernel_rfl) ?_
  refine s_val (v_move (v := .int .i64 _) rfl) ?_
  refine s_val (v_lss (k := .i64) rfl rfl) ?_
  refine s_nil ?_
  refine c_cond rfl rfl (fun h13 => ?_) (fun h13 => ?_)
  · have hlo := of_decide_eq_true h13
    refine r_seq (by kernel_rfl) ?_
    refine s_val (v_move (v := .int .i64 _) rfl) ?_
    refine s_val (v_toU8 (by kernel_rfl) rfl ⟨by omega, by omega⟩) ?_
    refine s_build1 (v := .int .u8 _) (e := 5) (m := 1) (by_ := 1) (by kernel_rfl) rfl rfl rfl (fill_scalar rfl) (fun b16 => ?_)
    refine s_val (v_strOf (l := [zig n]) (by kernel_rfl) (by kernel_rfl) rfl rfl .here (byt_one (by omega)) (cells_one _)) ?_
    refine s_val (v_assign (v := S _) rfl) ?_
    refine s_nil ?_
    refine c_ret ?_
    refine n_ret ?_
    exact n_done rfl (by decide) (congrArg S (digs_lo (by omega)).symm)
  have hhi := of_decide_eq_false h13
  refine c_skip ?_
  refine n_then ?_
  refine r_seq (by kernel_rfl) ?_
  refine s_val (v_assign (v := S []) rfl) ?_
  refine s_nil ?_
  refine c_seq ?_
  refine c_block ?_
  refine c_loop (σ := Nat × List Nat) (fun ((u, s) : Nat × List Nat) f => ∃ g, (digs (zig n) = s ++ digs u ∧ u < 128 ^ 5 ∧ s.length + (digs u).length ≤ 5) ∧ f = (upd (upd g 3 (I (u : Int))) 4 (S s))) (fun ((u, s) : Nat × List Nat) => Has w (At w) []) (fun ((u, s) : Nat × List Nat) => u) (zig n, []) ⟨_, ⟨rfl, hz5, by simpa using digs_len5 hn⟩, live2 rfl rfl⟩ (fun w hw => hw) ?_
  rintro ⟨u, s⟩ _ ⟨g, ⟨hdg, hu5, hsl⟩, rfl⟩
  refine c_seq ?_
  refine r_seq (by kernel_rfl) ?_
  refine s_val (v_move (v := .int .i64 _) rfl) ?_
  refine s_val (v_geq (k := .i64) rfl rfl) ?_
  refine s_nil ?_
  refine c_condR rfl rfl (fun h19 => ?_) (fun h19 => ?_)
  · have hu := of_decide_eq_false h19
    refine c_exit ?_
    refine n_exit ?_
    refine n_exit ?_
    refine n_bhere ?_
    refine n_then ?_
    refine r_seq (by kernel_rfl) ?_
    refine s_val (v_move (v := S _) rfl) ?_
    refine s_val (v_move (v := .int .i64 _) rfl) ?_
    refine s_val (v_toU8 (by kernel_rfl) rfl ⟨by omega, by omega⟩) ?_
    refine s_build1 (v := .int .u8 _) (e := 5) (m := 1) (by_ := 1) (by kernel_rfl) rfl rfl rfl (fill_scalar rfl) (fun b33 => ?_)
    refine s_val (v_strOf (l := [u]) (by kernel_rfl) (by kernel_rfl) rfl rfl .here (byt_one (by omega)) (cells_one _)) ?_
    refine s_val (v_strAdd rfl rfl (by simp only [List.length_cons, List.length_nil]; omega)) ?_
    refine s_val (v_assign (v := S _) rfl) ?_
    refine s_nil ?_
    refine c_ret ?_
    exact n_done rfl (by decide) (congrArg S (by rw [hdg, digs_lo (by omega)]))
  have hu := of_decide_eq_true h19
  refine c_skip ?_
  refine n_then ?_
  refine c_block ?_
  refine r_seq (by kernel_rfl) ?_
  refine s_val (v_move (v := S _) rfl) ?_
  refine s_val (v_move (v := .int .i64 _) rfl) ?_
  refine s_val (v_rem (c := ((u % 128 : Nat) : Int)) rfl rfl (by decide) (tmod_nat _ 128)) ?_
  refine s_val (v_add rfl rfl (by omega)) ?_
  refine s_val (v_toU8 (by kernel_rfl) rfl ⟨by omega, by omega⟩) ?_
  refine s_build1 (v := .int .u8 _) (e := 5) (m := 1) (by_ := 1) (by kernel_rfl) rfl rfl rfl (fill_scalar rfl) (fun b25 => ?_)
  refine s_val (v_strOf (l := [128 + u % 128]) (by kernel_rfl) (by kernel_rfl) rfl rfl .here (byt_one (by omega)) (cells_one _)) ?_
  refine s_val (v_strAdd rfl rfl (by simp only [List.length_cons, List.length_nil]; omega)) ?_
  refine s_val (v_assign (v := S _) rfl) ?_
  refine s_nil ?_
  refine r_list (by kernel_rfl) ?_
  refine s_val (v_move (v := .int .i64 _) rfl) ?_
  refine s_val (v_quo (c := ((u / 128 : Nat) : Int)) rfl rfl (by decide) (by rw [show ((u : Nat) : Int).tdiv 128 = ((u / 128 : Nat) : Int) from tdiv_nat u 128]; exact wr_in (by omega) (by omega))) ?_
  refine s_val (v_assign (v := .int .i64 _) rfl) ?_
  refine s_end ?_
  refine n_bnormal ?_
  refine n_round (s := (u, s)) (u / 128, s ++ [128 + u % 128]) ⟨_, ⟨by rw [hdg, digs_hi (by omega)]; simp, by omega, by rw [digs_hi (by omega)] at hsl; simp only [List.length_append, List.length_cons, List.length_nil] at hsl ⊢; omega⟩, live2 rfl rfl⟩ (fun _ hw => hw.tail) (by simp only; omega)

end Go.Proofs.Ytbajdhahmmfhcaa
