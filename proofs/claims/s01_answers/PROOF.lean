import PyProof.Rows.All
import Wide.All
import OpenK.AllK
import Wide.FinOn
import Open.SpecLaws
import KE.OsGo
import HandS.ForSpec
import HandS.Comp
import HandS.SortRule
import HandS.Iter
import KE.GoesEnumKw
import PySem.Challenge.RW_tickclocks_s01_answers
set_option Elab.async false
set_option maxRecDepth 100000
set_option maxHeartbeats 2000000
namespace Tk
open Ge03 (World Clock Timer clocksTick clockOf rings ringAll tick ticksDone)

/-! ### the world's invariant -/
structure CkOk (l : List Clock) : Prop where
  ok : ∀ (i : Nat) (c : Clock), l[i]? = some c → c.number = i ∧ c.on ≤ i ∧ c.speed ≤ 200 ∧ c.rest < 100
def tk (l : List Clock) (n : Nat) : Nat := ((l[n]?).map fun c => c.ticks).getD 0
structure TmOk (l : List Clock) (given : Nat) (ts : List Timer) : Prop where
  ok : ∀ t ∈ ts, t.clock < l.length ∧ t.number < given ∧ t.again ≤ 1000 ∧ tk l t.clock < t.due
  inc : ts.Pairwise fun a b => a.number < b.number
structure Ok (w : World) : Prop where
  s1 : 1 ≤ w.step
  s2 : w.step ≤ 1000
  m1 : 1 ≤ w.most
  m2 : w.most ≤ 50
  c1 : 1 ≤ w.clocks.length
  c6 : w.clocks.length ≤ 6
  ck : CkOk w.clocks
  t12 : w.timers.length ≤ 12
  tm : TmOk w.clocks w.given w.timers
theorem CkOk.find {l : List Clock} (h : CkOk l) (n : Nat) : l.find? (fun c => c.number == n) = l[n]? := by
  have key : ∀ (l' : List Clock) (k : Nat), (∀ (i : Nat) (c : Clock), l'[i]? = some c → c.number = k + i) → ∀ m, l'.find? (fun c => c.number == k + m) = l'[m]? := by
    intro l'
    induction l' with
    | nil => intro k _ m; simp
    | cons a r ih =>
      intro k hk m
      have ha : a.number = k := by simpa using hk 0 a rfl
      cases m with
      | zero => simp [ha]
      | succ m =>
        have := ih (k + 1) (fun i c hc => by have := hk (i + 1) c (by simpa using hc); omega) m
        rw [List.find?_cons]
        have e : (a.number == k + (m + 1)) = false := by simp [ha]
        rw [e]
        simp only [List.getElem?_cons_succ]
        rw [← this]
        congr 1
        funext c
        congr 1
        omega
  have := key l 0 (fun i c hc => by have := (h.ok i c hc).1; omega) n
  simpa using this
theorem Ok.clockOf {w : World} (h : Ok w) (n : Nat) : Ge03.clockOf w n = w.clocks[n]? := h.ck.find n

/-! ### clocks go on -/
def mv (c : Clock) (up : Nat) : Nat := (c.rest + up * c.speed) / 100
def goOn (c : Clock) (up : Nat) : Clock := { c with rest := (c.rest + up * c.speed) % 100, ticks := c.ticks + (c.rest + up * c.speed) / 100 }
def cstep (a : List Clock × List (Nat × Nat)) (c : Clock) : List Clock × List (Nat × Nat) :=
  let up := if c.on = 0 then 1 else ((a.2.find? fun x => x.1 + 1 == c.on).map fun x => x.2).getD 0
  let r := c.rest + up * c.speed
  (a.1 ++ [{ c with rest := r % 100, ticks := c.ticks + r / 100 }], a.2 ++ [(c.number, r / 100)])
theorem clocksTick_eq (l : List Clock) : clocksTick l = l.foldl cstep ([], []) := rfl
theorem take_more {α : Type} {l : List α} {i : Nat} {x : α} (h : l[i]? = some x) : l.take (i + 1) = l.take i ++ [x] := by
  rw [List.take_add_one, h]; rfl
theorem ct_more {l : List Clock} {i : Nat} {c : Clock} (h : l[i]? = some c) : clocksTick (l.take (i + 1)) = cstep (clocksTick (l.take i)) c := by
  rw [clocksTick_eq, clocksTick_eq, take_more h, List.foldl_append]; rfl
/-- what is known behind i clocks -/
structure Cg (l : List Clock) (i : Nat) (a : List Clock × List (Nat × Nat)) : Prop where
  l1 : a.1.length = i
  l2 : a.2.length = i
  num : ∀ (j : Nat) (x : Nat × Nat), a.2[j]? = some x → x.1 = j ∧ x.2 ≤ 2 ^ (j + 1)
  ck : ∀ (j : Nat) (c' : Clock), a.1[j]? = some c' → ∃ c up, l[j]? = some c ∧ c' = goOn c up ∧ mv c up ≤ 2 ^ (j + 1)
def upOf (a : List Clock × List (Nat × Nat)) (c : Clock) : Nat := if c.on = 0 then 1 else (a.2.map (·.2)).getD (c.on - 1) 0
theorem find_num : ∀ (l : List (Nat × Nat)) (b : Nat), (∀ (j : Nat) (x : Nat × Nat), l[j]? = some x → x.1 = b + j) → ∀ k, ((l.find? fun x => x.1 + 1 == b + k + 1).map fun x => x.2).getD 0 = (l.map (·.2)).getD k 0
  | [], _, _, k => by simp
  | a :: l, b, h, k => by
    have ha : a.1 = b := by simpa using h 0 a rfl
    cases k with
    | zero => simp [ha]
    | succ k =>
      have ih := find_num l (b + 1) (fun j x hx => by have := h (j + 1) x (by simpa using hx); omega) k
      rw [List.find?_cons]
      have e : (a.1 + 1 == b + (k + 1) + 1) = false := by simp [ha]
      rw [e]
      have e2 : b + (k + 1) + 1 = b + 1 + k + 1 := by omega
      rw [e2, ih]
      simp
theorem Cg.up {l : List Clock} {i : Nat} {a : List Clock × List (Nat × Nat)} (g : Cg l i a) (c : Clock) : (if c.on = 0 then 1 else ((a.2.find? fun x => x.1 + 1 == c.on).map fun x => x.2).getD 0) = upOf a c := by
  unfold upOf
  by_cases e : c.on = 0
  · rw [if_pos e, if_pos e]
  · rw [if_neg e, if_neg e]
    have := find_num a.2 0 (fun j x hx => by have := (g.num j x hx).1; omega) (c.on - 1)
    rw [← this]
    have e2 : 0 + (c.on - 1) + 1 = c.on := by omega
    rw [e2]
theorem Cg.step {l : List Clock} {i : Nat} {a : List Clock × List (Nat × Nat)} (g : Cg l i a) (c : Clock) : cstep a c = (a.1 ++ [goOn c (upOf a c)], a.2 ++ [(c.number, mv c (upOf a c))]) := by
  show ((a.1 ++ [goOn c _], a.2 ++ [(c.number, mv c _)]) : List Clock × List (Nat × Nat)) = _
  rw [g.up c]
theorem Cg.upLe {l : List Clock} {i : Nat} {a : List Clock × List (Nat × Nat)} (g : Cg l i a) {c : Clock} (hc : c.on ≤ i) : upOf a c ≤ 2 ^ i := by
  unfold upOf
  by_cases e : c.on = 0
  · rw [if_pos e]; exact Nat.one_le_two_pow
  · rw [if_neg e]
    have hlt : c.on - 1 < a.2.length := by rw [g.l2]; omega
    have h1 : a.2[c.on - 1]? = some (a.2[c.on - 1]) := List.getElem?_eq_getElem hlt
    have h2 := (g.num _ _ h1).2
    have h3 : (a.2.map (·.2)).getD (c.on - 1) 0 = (a.2[c.on - 1]).2 := by
      simp [List.getD_eq_getElem?_getD, hlt]
    rw [h3]
    refine Nat.le_trans h2 (Nat.pow_le_pow_right (by decide) (by omega))
theorem Cg.next {l : List Clock} (hl : CkOk l) {i : Nat} {a : List Clock × List (Nat × Nat)} (g : Cg l i a) {c : Clock} (hi : l[i]? = some c) : Cg l (i + 1) (cstep a c) := by
  obtain ⟨hn, ho, hs, hr⟩ := hl.ok i c hi
  have hu := g.upLe ho
  have hm : mv c (upOf a c) ≤ 2 ^ (i + 1) := by
    unfold mv
    have h1 : upOf a c * c.speed ≤ 2 ^ i * 200 := Nat.mul_le_mul hu hs
    rw [Nat.pow_succ]
    omega
  rw [g.step]
  refine ⟨by simp [g.l1], by simp [g.l2], fun j x hx => ?_, fun j c' hc' => ?_⟩
  · rcases Nat.lt_or_ge j i with q | q
    · rw [List.getElem?_append_left (by rw [g.l2]; exact q)] at hx
      exact g.num j x hx
    · rw [List.getElem?_append_right (by rw [g.l2]; exact q), g.l2] at hx
      have e : j - i = 0 := by
        have := (List.getElem?_eq_some_iff.mp hx).1
        simp at this; omega
      rw [e] at hx
      have ej : j = i := by omega
      subst ej
      simp at hx
      subst hx
      exact ⟨hn, hm⟩
  · rcases Nat.lt_or_ge j i with q | q
    · rw [List.getElem?_append_left (by rw [g.l1]; exact q)] at hc'
      exact g.ck j c' hc'
    · rw [List.getElem?_append_right (by rw [g.l1]; exact q), g.l1] at hc'
      have e : j - i = 0 := by
        have := (List.getElem?_eq_some_iff.mp hc').1
        simp at this; omega
      rw [e] at hc'
      have ej : j = i := by omega
      subst ej
      simp at hc'
      exact ⟨c, upOf a c, hi, hc'.symm, hm⟩
theorem cg_take {l : List Clock} (hl : CkOk l) : ∀ i, i ≤ l.length → Cg l i (clocksTick (l.take i))
  | 0, _ => ⟨rfl, rfl, fun j x hx => by simp [clocksTick] at hx, fun j x hx => by simp [clocksTick] at hx⟩
  | i + 1, h => by
    have hi : l[i]? = some l[i] := List.getElem?_eq_getElem (by omega)
    rw [ct_more hi]
    exact (cg_take hl i (by omega)).next hl hi
theorem cg_all {l : List Clock} (hl : CkOk l) : Cg l l.length (clocksTick l) := by
  have := cg_take hl l.length (Nat.le_refl _)
  rwa [List.take_length] at this
theorem ct_ok {l : List Clock} (hl : CkOk l) : CkOk (clocksTick l).1 := ⟨fun i c' hc' => by
  obtain ⟨c, up, h1, rfl, _⟩ := (cg_all hl).ck i c' hc'
  obtain ⟨a, b, d, e⟩ := hl.ok i c h1
  exact ⟨a, b, d, Nat.mod_lt _ (by decide)⟩⟩
/-- how far a clock gets in one tick of the game -/
theorem ct_tk {l : List Clock} (hl : CkOk l) (h6 : l.length ≤ 6) (n : Nat) : tk l n ≤ tk (clocksTick l).1 n ∧ tk (clocksTick l).1 n ≤ tk l n + 64 := by
  have g := cg_all hl
  unfold tk
  cases e : (clocksTick l).1[n]? with
  | none =>
    have h1 : l[n]? = none := by
      rw [List.getElem?_eq_none_iff] at e ⊢
      rw [g.l1] at e
      exact e
    rw [h1]
    simp
  | some c' =>
    obtain ⟨c, up, h1, rfl, h2⟩ := g.ck n c' e
    have hn : n < l.length := (List.getElem?_eq_some_iff.mp h1).1
    rw [h1]
    have h3 : (2 : Nat) ^ (n + 1) ≤ 2 ^ 6 := Nat.pow_le_pow_right (by decide) (by omega)
    have h4 : (2 : Nat) ^ 6 = 64 := rfl
    have h5 : mv c up ≤ 64 := by omega
    simp only [Option.map_some, Option.getD_some, goOn]
    unfold mv at h5
    omega

/-! ### what a timer rings -/
def later (t : Timer) (j : Nat) : Timer := { t with due := t.due + j * t.again }
theorem later_zero (t : Timer) : later t 0 = t := by cases t; simp [later]
theorem rings_not (f now : Nat) (t : Timer) (h : now < t.due) : rings f now t = (0, some t) := by
  cases f with
  | zero => rfl
  | succ f => simp [rings, h]
theorem rings_once (f now : Nat) (t : Timer) (h : ¬ now < t.due) (ha : t.again = 0) : rings (f + 1) now t = (1, none) := by
  simp [rings, h, ha]
theorem rings_more (f now : Nat) (t : Timer) (h : ¬ now < t.due) (ha : ¬ t.again = 0) : rings (f + 1) now t = ((rings f now (later t 1)).1 + 1, (rings f now (later t 1)).2) := by
  have e : later t 1 = { t with due := t.due + t.again } := by simp [later]
  rw [e]
  simp [rings, h, ha]
theorem later_later (t : Timer) (i j : Nat) : later (later t i) j = later t (i + j) := by
  simp [later, Nat.add_mul, Nat.add_assoc]
/-- the while loop: behind j turns -/
def Rg (now : Nat) (t : Timer) (j : Nat) : Prop := ∃ f, now + 1 - (later t j).due ≤ f ∧ rings 100 now t = ((rings f now (later t j)).1 + j, (rings f now (later t j)).2)
theorem rg_start {now : Nat} {t : Timer} (h : now < t.due + 64) : Rg now t 0 := ⟨100, by rw [later_zero]; omega, by rw [later_zero]; rfl⟩
theorem rg_turn {now : Nat} {t : Timer} {j : Nat} (ha : ¬ t.again = 0) (hd : ¬ now < (later t j).due) (h : Rg now t j) : Rg now t (j + 1) := by
  obtain ⟨f, hf, e⟩ := h
  cases f with
  | zero => omega
  | succ f =>
    rw [rings_more f now (later t j) hd ha, later_later] at e
    refine ⟨f, ?_, ?_⟩
    · have : (later t (j + 1)).due = (later t j).due + t.again := by simp [later, Nat.add_mul, Nat.add_assoc]
      omega
    · rw [e]
      show (_ + 1 + j, _) = (_ + (j + 1), _)
      congr 1
      omega
theorem rg_end {now : Nat} {t : Timer} {j : Nat} (hd : now < (later t j).due) (h : Rg now t j) : rings 100 now t = (j, some (later t j)) := by
  obtain ⟨f, hf, e⟩ := h
  rw [e, rings_not f now _ hd]
  simp
/-- the dues of the first j -/
def duesOf (t : Timer) (j : Nat) : List Nat := (List.range j).map fun i => t.due + i * t.again
theorem dues_more (t : Timer) (j : Nat) : duesOf t (j + 1) = duesOf t j ++ [(later t j).due] := by
  simp [duesOf, List.range_succ, later]
/-- the ways in which a timer stands behind a tick -/
theorem rings_ways {now : Nat} {t : Timer} (h : now < t.due + 64) : (now < t.due ∧ rings 100 now t = (0, some t)) ∨ (¬ now < t.due ∧ t.again = 0 ∧ rings 100 now t = (1, none)) ∨
    (¬ now < t.due ∧ ¬ t.again = 0 ∧ ∃ j, 1 ≤ j ∧ j ≤ 64 ∧ now < (later t j).due ∧ rings 100 now t = (j, some (later t j))) := by
  by_cases c : now < t.due
  · exact .inl ⟨c, rings_not _ _ _ c⟩
  · by_cases a : t.again = 0
    · exact .inr (.inl ⟨c, a, rings_once _ _ _ c a⟩)
    · refine .inr (.inr ⟨c, a, ?_⟩)
      have key : ∀ n j, now + 1 - (later t j).due ≤ n → Rg now t j → ∃ k, j ≤ k ∧ (k = j ∨ ¬ now < (later t (k - 1)).due) ∧ now < (later t k).due ∧ rings 100 now t = (k, some (later t k)) := by
        intro n
        induction n with
        | zero => intro j hj r; exact ⟨j, Nat.le_refl _, .inl rfl, by omega, rg_end (by omega) r⟩
        | succ n ih =>
          intro j hj r
          by_cases d : now < (later t j).due
          · exact ⟨j, Nat.le_refl _, .inl rfl, d, rg_end d r⟩
          · have e : (later t (j + 1)).due = (later t j).due + t.again := by simp [later, Nat.add_mul, Nat.add_assoc]
            obtain ⟨k, h1, h2, h3, h4⟩ := ih (j + 1) (by omega) (rg_turn a d r)
            refine ⟨k, by omega, .inr ?_, h3, h4⟩
            rcases h2 with h2 | h2
            · subst h2; exact d
            · exact h2
      obtain ⟨k, _, h2, h3, h4⟩ := key _ 0 (Nat.le_refl _) (rg_start h)
      have hk : 1 ≤ k := by
        rcases Nat.eq_zero_or_pos k with z | z
        · subst z; rw [later_zero] at h3; exact absurd h3 c
        · exact z
      refine ⟨k, hk, ?_, h3, h4⟩
      rcases h2 with h2 | h2
      · omega
      · have : (later t (k - 1)).due ≥ t.due + (k - 1) := by
          show t.due + (k - 1) * t.again ≥ _
          have : (k - 1) * 1 ≤ (k - 1) * t.again := Nat.mul_le_mul_left _ (by omega)
          omega
        omega
end Tk

namespace Tk
open Ge03 (World Clock Timer clocksTick clockOf rings ringAll tick ticksDone)

/-! ### the order in which things ring -/
/-- (clock, due, timer), by the first, then the second, then the third -/
def leT (p q : Nat × Nat × Nat) : Prop := p.1 < q.1 ∨ (p.1 = q.1 ∧ (p.2.1 < q.2.1 ∨ (p.2.1 = q.2.1 ∧ p.2.2 ≤ q.2.2)))
theorem leT_anti {p q : Nat × Nat × Nat} (h1 : leT p q) (h2 : leT q p) : p = q := by
  obtain ⟨a, b, c⟩ := p
  obtain ⟨d, e, f⟩ := q
  simp only [leT] at h1 h2
  have h3 : a = d := by omega
  have h4 : b = e := by omega
  have h5 : c = f := by omega
  rw [h3, h4, h5]
theorem leT_trans {p q r : Nat × Nat × Nat} (h1 : leT p q) (h2 : leT q r) : leT p r := by
  simp only [leT] at *
  omega
def befor (a b : Nat × Nat) : Bool := decide (b.2 < a.2) || (a.2 == b.2 && decide (b.1 < a.1))
def ins (a : Nat × Nat) (m : List (Nat × Nat)) : List (Nat × Nat) := (m.takeWhile (befor a)) ++ (a :: (m.dropWhile (befor a)))
def isort (l : List (Nat × Nat)) : List (Nat × Nat) := l.foldr ins []
theorem ins_cons (a b : Nat × Nat) (m : List (Nat × Nat)) : ins a (b :: m) = if befor a b = true then b :: ins a m else a :: b :: m := by
  unfold ins
  by_cases h : befor a b = true
  · simp [h]
  · simp [h]
theorem ins_perm (a : Nat × Nat) : ∀ m, (ins a m).Perm (a :: m)
  | [] => List.Perm.refl _
  | b :: m => by
    rw [ins_cons]
    split
    · exact ((ins_perm a m).cons b).trans (List.Perm.swap a b m)
    · exact List.Perm.refl _
theorem isort_perm : ∀ l, (isort l).Perm l
  | [] => List.Perm.refl _
  | a :: l => (ins_perm a (isort l)).trans ((isort_perm l).cons a)
def leP (a b : Nat × Nat) : Prop := a.2 < b.2 ∨ (a.2 = b.2 ∧ a.1 ≤ b.1)
theorem befor_iff {a b : Nat × Nat} : befor a b = true ↔ b.2 < a.2 ∨ (b.2 = a.2 ∧ b.1 < a.1) := by
  simp [befor]
  omega
theorem ins_sorted (a : Nat × Nat) : ∀ m, m.Pairwise leP → (ins a m).Pairwise leP
  | [], _ => List.pairwise_singleton _ _
  | b :: m, h => by
    obtain ⟨h1, h2⟩ := List.pairwise_cons.mp h
    rw [ins_cons]
    split
    · rename_i c
      have c' := befor_iff.mp c
      refine List.pairwise_cons.mpr ⟨fun x hx => ?_, ins_sorted a m h2⟩
      rcases List.mem_cons.mp ((ins_perm a m).mem_iff.mp hx) with e | e
      · subst e
        simp only [leP]
        omega
      · exact h1 x e
    · rename_i c
      have c' : ¬ (b.2 < a.2 ∨ (b.2 = a.2 ∧ b.1 < a.1)) := fun z => c (befor_iff.mpr z)
      have ab : leP a b := by
        simp only [leP]
        omega
      refine List.pairwise_cons.mpr ⟨fun x hx => ?_, h⟩
      rcases List.mem_cons.mp hx with e | e
      · subst e; exact ab
      · have := h1 x e
        simp only [leP] at *
        omega
theorem isort_sorted : ∀ l, (isort l).Pairwise leP
  | [] => List.Pairwise.nil
  | a :: l => ins_sorted a _ (isort_sorted l)
/-- by keys below n, one key after another -/
theorem bucket_one {α : Type} (x : α) (g : Nat → List α) (k : Nat) : ∀ n, k < n → ((List.range n).flatMap fun i => if k = i then x :: g i else g i).Perm (x :: (List.range n).flatMap g)
  | 0, h => by omega
  | n + 1, h => by
    rw [List.range_succ, List.flatMap_append, List.flatMap_append]
    by_cases e : k = n
    · subst e
      have e1 : ((List.range k).flatMap fun i => if k = i then x :: g i else g i) = (List.range k).flatMap g := by
        have e0 : ∀ a ∈ List.range k, (if k = a then x :: g a else g a) = g a := fun a ha => by
          have := List.mem_range.mp ha
          rw [if_neg (by omega)]
        rw [List.flatMap_def, List.flatMap_def, List.map_congr_left e0]
      rw [e1]
      simp only [List.flatMap_cons, List.flatMap_nil, List.append_nil, if_true]
      exact List.perm_middle
    · have ih := bucket_one x g k n (by omega)
      simp only [List.flatMap_cons, List.flatMap_nil, List.append_nil, if_neg e]
      exact ih.append_right _
theorem bucket {α : Type} (key : α → Nat) (n : Nat) : ∀ xs : List α, (∀ x ∈ xs, key x < n) → ((List.range n).flatMap fun i => xs.filter fun x => key x == i).Perm xs
  | [], _ => by
    have : ((List.range n).flatMap fun i => ([] : List α).filter fun x => key x == i) = [] := by
      simp
    rw [this]
  | x :: xs, h => by
    have ih := bucket key n xs fun y hy => h y (List.mem_cons_of_mem _ hy)
    have e : ((List.range n).flatMap fun i => (x :: xs).filter fun x => key x == i) = (List.range n).flatMap fun i => if key x = i then x :: (xs.filter fun x => key x == i) else xs.filter fun x => key x == i := by
      congr 1
      funext i
      rw [List.filter_cons]
      by_cases c : key x = i
      · simp [c]
      · simp [c]
    rw [e]
    exact (bucket_one x _ (key x) n (h x List.mem_cons_self)).trans (ih.cons x)
/-- what one timer rings, as (clock, due, timer) -/
def tri (now : Timer → Nat) (t : Timer) : List (Nat × Nat × Nat) := (duesOf t (rings 100 (now t) t).1).map fun d => (t.clock, d, t.number)
def tris (now : Timer → Nat) (ts : List Timer) : List (Nat × Nat × Nat) := ts.flatMap (tri now)
def nowOf (l : List Clock) (t : Timer) : Nat := tk l t.clock
/-- what rings, in order, as (timer, due) -/
def rung (l : List Clock) (ts : List Timer) : List (Nat × Nat) :=
  let x := ts.map fun t => (t, rings 100 (tk l t.clock) t)
  l.flatMap fun c => isort ((x.filter fun y => y.1.clock == c.number).flatMap fun y => (List.range y.2.1).map fun i => (y.1.number, y.1.due + i * y.1.again))
def stays (l : List Clock) (ts : List Timer) : List Timer := ts.filterMap fun t => (rings 100 (tk l t.clock) t).2
theorem ringAll_eq {w : World} (h : CkOk w.clocks) : ringAll w = ({ w with timers := stays w.clocks w.timers }, rung w.clocks w.timers) := by
  have e : ∀ t : Timer, (((Ge03.clockOf w t.clock).map fun c => c.ticks).getD 0) = tk w.clocks t.clock := fun t => by
    unfold tk Ge03.clockOf
    rw [h.find]
  unfold ringAll rung stays
  simp only [e]
  refine Prod.ext ?_ ?_
  · simp [List.filterMap_map, Function.comp_def]
  · rfl
def perClock (l : List Clock) (ts : List Timer) (i : Nat) : List (Nat × Nat) := (ts.filter fun t => t.clock == i).flatMap fun t => (duesOf t (rings 100 (tk l t.clock) t).1).map fun d => (t.number, d)
theorem rung_eq (l : List Clock) (h : CkOk l) (ts : List Timer) : rung l ts = (List.range l.length).flatMap fun i => isort (perClock l ts i) := by
  have e1 : l.map (fun c => c.number) = List.range l.length := by
    apply List.ext_getElem?
    intro i
    rw [List.getElem?_map]
    cases e : l[i]? with
    | none =>
      rw [List.getElem?_eq_none_iff] at e
      rw [List.getElem?_eq_none (by rw [List.length_range]; exact e)]
      rfl
    | some c =>
      have hi := (List.getElem?_eq_some_iff.mp e).1
      rw [List.getElem?_range hi]
      simp [(h.ok i c e).1]
  have e2 : rung l ts = l.flatMap fun c => isort (perClock l ts c.number) := by
    unfold rung perClock
    simp only []
    congr 1
    funext c
    congr 1
    rw [List.filter_map, List.flatMap_map]
    congr 1
    funext t
    simp only [duesOf, List.map_map, Function.comp_def]
  rw [e2, ← e1, List.flatMap_map]
def back (p : Nat × Nat × Nat) : Nat × Nat := (p.2.2, p.2.1)
theorem sorted_is {l : List Clock} (h : CkOk l) {ts : List Timer} (ht : ∀ t ∈ ts, t.clock < l.length) {ys : List (Nat × Nat × Nat)} (hp : ys.Perm (tris (nowOf l) ts)) (hs : ys.Pairwise leT) : ys.map back = rung l ts := by
  let S : List (Nat × Nat × Nat) := (List.range l.length).flatMap fun i => (isort (perClock l ts i)).map fun a => (i, a.2, a.1)
  have e1 : S.map back = rung l ts := by
    rw [rung_eq l h]
    show ((List.range l.length).flatMap fun i => (isort (perClock l ts i)).map fun a => (i, a.2, a.1)).map back = _
    rw [List.map_flatMap]
    congr 1
    funext i
    rw [List.map_map]
    have : (back ∘ fun (a : Nat × Nat) => (i, a.2, a.1)) = id := by funext a; rfl
    rw [this, List.map_id]
  have p1 : S.Perm (tris (nowOf l) ts) := by
    have q1 : S.Perm ((List.range l.length).flatMap fun i => (perClock l ts i).map fun a => (i, a.2, a.1)) := by
      have gen : ∀ (r : List Nat) (f g : Nat → List (Nat × Nat × Nat)), (∀ i, (f i).Perm (g i)) → (r.flatMap f).Perm (r.flatMap g) := by
        intro r f g hfg
        induction r with
        | nil => exact List.Perm.refl _
        | cons a r ih =>
          rw [List.flatMap_cons, List.flatMap_cons]
          exact (hfg a).append ih
      exact gen _ _ _ fun i => (isort_perm _).map _
    refine q1.trans ?_
    have q2 : ((List.range l.length).flatMap fun i => (perClock l ts i).map fun a => (i, a.2, a.1)) = ((List.range l.length).flatMap fun i => ts.filter fun t => t.clock == i).flatMap (tri (nowOf l)) := by
      rw [List.flatMap_assoc]
      congr 1
      funext i
      unfold perClock
      rw [List.map_flatMap]
      have key : ∀ t ∈ (ts.filter fun t => t.clock == i), (((duesOf t (rings 100 (tk l t.clock) t).1).map fun d => (t.number, d)).map fun a => (i, a.2, a.1)) = tri (nowOf l) t := fun t hm => by
        have hc : t.clock = i := by simpa using (List.mem_filter.mp hm).2
        unfold tri nowOf
        rw [List.map_map, hc]
        rfl
      rw [List.flatMap_def, List.flatMap_def, List.map_congr_left key]
    rw [q2]
    have q3 := bucket (fun t : Timer => t.clock) l.length ts ht
    exact q3.flatMap_right _
  have s1 : S.Pairwise leT := by
    show ((List.range l.length).flatMap fun i => (isort (perClock l ts i)).map fun a => (i, a.2, a.1)).Pairwise leT
    rw [List.pairwise_flatMap]
    refine ⟨fun i _ => ?_, ?_⟩
    · rw [List.pairwise_map]
      refine (isort_sorted _).imp fun {a b} hab => ?_
      exact .inr ⟨rfl, hab⟩
    · refine List.pairwise_lt_range.imp fun {i j} hij x hx y hy => ?_
      obtain ⟨a, _, rfl⟩ := List.mem_map.mp hx
      obtain ⟨b, _, rfl⟩ := List.mem_map.mp hy
      exact .inl hij
  have e2 : ys = S := List.Perm.eq_of_pairwise (fun a b _ _ h1 h2 => leT_anti h1 h2) hs s1 (hp.trans p1.symm)
  rw [e2, e1]
end Tk

namespace Tk
open Ge03 (World Clock Timer clocksTick clockOf rings ringAll tick ticksDone)

/-! ### a tick -/
def ticked (w : World) : World := { w with ticks := w.ticks + 1, clocks := (clocksTick w.clocks).1, timers := stays (clocksTick w.clocks).1 w.timers }
def rang (w : World) : List (Nat × Nat) := rung (clocksTick w.clocks).1 w.timers
theorem tick_eq {w : World} (h : Ok w) : tick w = (ticked w, rang w) := by
  unfold tick
  rw [ringAll_eq (w := { w with ticks := w.ticks + 1, clocks := (clocksTick w.clocks).1 }) (ct_ok h.ck)]
  rfl
theorem now_lt {w : World} (h : Ok w) {t : Timer} (ht : t ∈ w.timers) : tk (clocksTick w.clocks).1 t.clock < t.due + 64 := by
  have h1 := (ct_tk h.ck h.c6 t.clock).2
  have h2 := (h.tm.ok t ht).2.2.2
  omega
theorem stay_of {now : Nat} {t t' : Timer} (h : now < t.due + 64) (e : (rings 100 now t).2 = some t') : now < t'.due ∧ t'.number = t.number ∧ t'.clock = t.clock ∧ t'.again = t.again ∧ ∃ j, t' = later t j := by
  rcases rings_ways h with ⟨h1, h2⟩ | ⟨h1, h2, h3⟩ | ⟨h1, h2, j, h3, h4, h5, h6⟩
  · rw [h2] at e
    cases e
    exact ⟨h1, rfl, rfl, rfl, 0, (later_zero t).symm⟩
  · rw [h3] at e
    cases e
  · rw [h6] at e
    cases e
    exact ⟨h5, rfl, rfl, rfl, j, rfl⟩
theorem ct_len {l : List Clock} (h : CkOk l) : (clocksTick l).1.length = l.length := (cg_all h).l1
theorem ticked_ok {w : World} (h : Ok w) : Ok (ticked w) := by
  refine ⟨h.s1, h.s2, h.m1, h.m2, ?_, ?_, ct_ok h.ck, ?_, ?_⟩
  · show 1 ≤ (clocksTick w.clocks).1.length
    rw [ct_len h.ck]; exact h.c1
  · show (clocksTick w.clocks).1.length ≤ 6
    rw [ct_len h.ck]; exact h.c6
  · exact Nat.le_trans (List.length_filterMap_le _ _) h.t12
  · refine ⟨fun t' ht' => ?_, ?_⟩
    · obtain ⟨t, ht, e⟩ := List.mem_filterMap.mp ht'
      obtain ⟨h1, h2, h3, h4, _⟩ := stay_of (now_lt h ht) e
      obtain ⟨k1, k2, k3, k4⟩ := h.tm.ok t ht
      refine ⟨?_, ?_, ?_, ?_⟩
      · show t'.clock < (clocksTick w.clocks).1.length
        rw [ct_len h.ck, h3]; exact k1
      · rw [h2]; exact k2
      · rw [h4]; exact k3
      · rw [h3]; exact h1
    · show (stays (clocksTick w.clocks).1 w.timers).Pairwise _
      unfold stays
      rw [List.pairwise_filterMap]
      refine List.Pairwise.imp_of_mem (fun {a b} ha hb hab x hx y hy => ?_) h.tm.inc
      obtain ⟨_, h2, _⟩ := stay_of (now_lt h ha) hx
      obtain ⟨_, k2, _⟩ := stay_of (now_lt h hb) hy
      omega
theorem tri_len {now : Timer → Nat} {t : Timer} (h : now t < t.due + 64) : (tri now t).length ≤ 64 := by
  unfold tri duesOf
  rw [List.length_map, List.length_map, List.length_range]
  rcases rings_ways h with ⟨h1, h2⟩ | ⟨h1, h2, h3⟩ | ⟨h1, h2, j, h3, h4, h5, h6⟩
  · rw [h2]; simp
  · rw [h3]; simp
  · rw [h6]; exact h4
theorem tris_len {now : Timer → Nat} : ∀ {ts : List Timer}, (∀ t ∈ ts, now t < t.due + 64) → (tris now ts).length ≤ 64 * ts.length
  | [], _ => by simp [tris]
  | t :: ts, h => by
    have h1 := tri_len (h t List.mem_cons_self)
    have h2 := tris_len (ts := ts) fun x hx => h x (List.mem_cons_of_mem _ hx)
    unfold tris at h2 ⊢
    rw [List.flatMap_cons, List.length_append, List.length_cons]
    omega
def flat3 (l : List (Nat × Nat × Nat)) : List Nat := l.flatMap fun y => [y.1, y.2.1, y.2.2]
theorem flat3_len : ∀ l, (flat3 l).length = 3 * l.length
  | [] => rfl
  | a :: l => by
    have := flat3_len l
    unfold flat3 at this ⊢
    rw [List.flatMap_cons, List.length_append, this]
    simp
    omega
theorem flat3_app (a b : List (Nat × Nat × Nat)) : flat3 (a ++ b) = flat3 a ++ flat3 b := List.flatMap_append
/-- what a tick tells -/
def told1 (w : World) : List (Nat × Nat × Nat) := (rang w).map fun y => (w.ticks + 1, y.1, y.2)
theorem td_succ {w : World} (h : Ok w) (n : Nat) : ticksDone (n + 1) w = ((ticksDone n (ticked w)).1, told1 w ++ (ticksDone n (ticked w)).2) := by
  show ((ticksDone n (tick w).1).1, (tick w).2.map (fun y => ((tick w).1.ticks, y.1, y.2)) ++ (ticksDone n (tick w).1).2) = _
  rw [tick_eq h]
  rfl
theorem td_ok : ∀ n {w : World}, Ok w → Ok (ticksDone n w).1
  | 0, _, h => h
  | n + 1, w, h => by
    rw [td_succ h]
    exact td_ok n (ticked_ok h)
theorem rang_len {w : World} (h : Ok w) : (rang w).length ≤ 768 := by
  have e : ∃ ys : List (Nat × Nat × Nat), ys.Perm (tris (nowOf (clocksTick w.clocks).1) w.timers) ∧ ys.Pairwise leT := by
    let le : Nat × Nat × Nat → Nat × Nat × Nat → Bool := fun p q => decide (p.1 < q.1) || (decide (p.1 = q.1) && (decide (p.2.1 < q.2.1) || (decide (p.2.1 = q.2.1) && decide (p.2.2 ≤ q.2.2))))
    have hle : ∀ p q, le p q = true ↔ leT p q := fun p q => by simp [le, leT]
    refine ⟨(tris (nowOf (clocksTick w.clocks).1) w.timers).mergeSort le, List.mergeSort_perm _ _, ?_⟩
    have := List.pairwise_mergeSort (le := le) (fun a b c h1 h2 => (hle a c).mpr (leT_trans ((hle a b).mp h1) ((hle b c).mp h2))) (fun a b => by simp [le]; omega) (tris (nowOf (clocksTick w.clocks).1) w.timers)
    exact this.imp fun {a b} hab => (hle a b).mp hab
  obtain ⟨ys, hp, hs⟩ := e
  have e2 := sorted_is (ct_ok h.ck) (fun t ht => by rw [ct_len h.ck]; exact (h.tm.ok t ht).1) hp hs
  have h1 : (rang w).length = ys.length := by
    show (rung _ _).length = _
    rw [← e2, List.length_map]
  have h2 := tris_len (now := nowOf (clocksTick w.clocks).1) (ts := w.timers) fun t ht => now_lt h ht
  have h3 := h.t12
  rw [h1, hp.length_eq]
  omega
theorem td_len : ∀ n {w : World}, Ok w → (ticksDone n w).2.length ≤ 768 * n
  | 0, _, _ => Nat.le_refl _
  | n + 1, w, h => by
    rw [td_succ h, List.length_append]
    have h1 := td_len n (ticked_ok h)
    have h2 := rang_len h
    have h3 : (told1 w).length = (rang w).length := List.length_map _
    omega
theorem td_rest : ∀ n (w : World), Ok w → (ticksDone n w).1.rest = w.rest ∧ (ticksDone n w).1.step = w.step ∧ (ticksDone n w).1.most = w.most ∧ (ticksDone n w).1.ticks = w.ticks + n ∧ (ticksDone n w).1.lost = w.lost
  | 0, _, _ => ⟨rfl, rfl, rfl, rfl, rfl⟩
  | n + 1, w, h => by
    rw [td_succ h]
    obtain ⟨a, b, c, d, e⟩ := td_rest n (ticked w) (ticked_ok h)
    refine ⟨a, b, c, ?_, e⟩
    rw [d]
    show w.ticks + 1 + n = _
    omega
/-! ### a call keeps the invariant -/
theorem init_ok : Ok Ge03.init := ⟨by decide, by decide, by decide, by decide, by decide, by decide, ⟨fun i c hc => by
  match i, hc with
  | 0, hc => cases hc; decide⟩, by decide, ⟨fun t ht => (List.not_mem_nil ht).elim, List.Pairwise.nil⟩⟩
theorem begin_ok {s m : Nat} (h1 : ¬ (s = 0 ∨ 1000 < s ∨ m = 0 ∨ 50 < m)) : Ok { Ge03.init with step := s, most := m } := by
  obtain ⟨a, b, c, d, e, f, g, h, i⟩ := init_ok
  exact ⟨by show 1 ≤ s; omega, by show s ≤ 1000; omega, by show 1 ≤ m; omega, by show m ≤ 50; omega, e, f, g, h, i⟩
theorem framed_ok {w : World} (h : Ok w) (r l : Nat) : Ok { w with rest := r, lost := l } := ⟨h.s1, h.s2, h.m1, h.m2, h.c1, h.c6, h.ck, h.t12, h.tm⟩
theorem tk_app {l : List Clock} {c : Clock} {n : Nat} (h : n < l.length) : tk (l ++ [c]) n = tk l n := by
  unfold tk
  rw [List.getElem?_append_left h]
theorem clock_ok {w : World} (h : Ok w) {o s : Nat} (hs : ¬ 200 < s) (ho : o < w.clocks.length) (h6 : ¬ 6 ≤ w.clocks.length) : Ok { w with clocks := w.clocks ++ [⟨w.clocks.length, o + 1, s, 0, 0⟩] } := by
  refine ⟨h.s1, h.s2, h.m1, h.m2, ?_, ?_, ⟨fun i c hc => ?_⟩, h.t12, ⟨fun t ht => ?_, h.tm.inc⟩⟩
  · show 1 ≤ (w.clocks ++ _).length
    simp
  · show (w.clocks ++ _).length ≤ 6
    simp; omega
  · have hc' : (w.clocks ++ [⟨w.clocks.length, o + 1, s, 0, 0⟩])[i]? = some c := hc
    rcases Nat.lt_or_ge i w.clocks.length with q | q
    · rw [List.getElem?_append_left q] at hc'
      exact h.ck.ok i c hc'
    · rw [List.getElem?_append_right q] at hc'
      have e : i - w.clocks.length = 0 := by
        have := (List.getElem?_eq_some_iff.mp hc').1
        simp at this; omega
      rw [e] at hc'
      cases hc'
      refine ⟨by show w.clocks.length = i; omega, by show o + 1 ≤ i; omega, by show s ≤ 200; omega, by show 0 < 100; omega⟩
  · obtain ⟨a, b, c, d⟩ := h.tm.ok t ht
    refine ⟨by show t.clock < (w.clocks ++ _).length; simp; omega, b, c, ?_⟩
    show tk (w.clocks ++ _) t.clock < _
    rw [tk_app a]
    exact d
def sped (c s : Nat) (x : Clock) : Clock := if x.number = c then { x with speed := s } else x
theorem sped_same (c s : Nat) (x : Clock) : (sped c s x).number = x.number ∧ (sped c s x).on = x.on ∧ (sped c s x).rest = x.rest ∧ (sped c s x).ticks = x.ticks := by
  unfold sped
  split <;> exact ⟨rfl, rfl, rfl, rfl⟩
theorem sped_set {l : List Clock} (h : CkOk l) (c s : Nat) (x : Clock) (hx : l[c]? = some x) : l.map (sped c s) = l.set c { x with speed := s } := by
  apply List.ext_getElem?
  intro i
  rw [List.getElem?_map, List.getElem?_set]
  have hc : c < l.length := (List.getElem?_eq_some_iff.mp hx).1
  by_cases e : c = i
  · subst e
    rw [if_pos rfl, if_pos hc, hx]
    show some (sped c s x) = _
    unfold sped
    rw [if_pos (h.ok c x hx).1]
  · rw [if_neg e]
    cases e2 : l[i]? with
    | none => rfl
    | some y =>
      show some (sped c s y) = _
      unfold sped
      rw [if_neg (by rw [(h.ok i y e2).1]; omega)]
theorem speed_ok {w : World} (h : Ok w) {c s : Nat} (hs : ¬ 200 < s) : Ok { w with clocks := w.clocks.map (sped c s) } := by
  refine ⟨h.s1, h.s2, h.m1, h.m2, ?_, ?_, ⟨fun i x hx => ?_⟩, h.t12, ⟨fun t ht => ?_, h.tm.inc⟩⟩
  · show 1 ≤ (w.clocks.map _).length
    rw [List.length_map]; exact h.c1
  · show (w.clocks.map _).length ≤ 6
    rw [List.length_map]; exact h.c6
  · have hx' : (w.clocks.map (sped c s))[i]? = some x := hx
    rw [List.getElem?_map] at hx'
    cases e : w.clocks[i]? with
    | none => rw [e] at hx'; cases hx'
    | some y =>
      rw [e] at hx'
      cases hx'
      obtain ⟨k1, k2, k3, k4⟩ := sped_same c s y
      obtain ⟨j1, j2, j3, j4⟩ := h.ck.ok i y e
      refine ⟨by rw [k1]; exact j1, by rw [k2]; exact j2, ?_, by rw [k3]; exact j4⟩
      unfold sped
      split
      · show s ≤ 200; omega
      · exact j3
  · obtain ⟨a, b, d, e⟩ := h.tm.ok t ht
    refine ⟨by show t.clock < (w.clocks.map _).length; rw [List.length_map]; exact a, b, d, ?_⟩
    show tk (w.clocks.map _) t.clock < _
    have e2 : tk (w.clocks.map (sped c s)) t.clock = tk w.clocks t.clock := by
      unfold tk
      rw [List.getElem?_map]
      cases w.clocks[t.clock]? with
      | none => rfl
      | some y => exact (sped_same c s y).2.2.2
    rw [e2]
    exact e
theorem timer_ok {w : World} (h : Ok w) {c n a : Nat} {x : Clock} (hx : w.clocks[c]? = some x) (h1 : ¬ (n = 0 ∨ 1000 < n ∨ 1000 < a)) (h12 : ¬ 12 ≤ w.timers.length) : Ok { w with timers := w.timers ++ [⟨w.given, c, x.ticks + n, a⟩], given := w.given + 1 } := by
  refine ⟨h.s1, h.s2, h.m1, h.m2, h.c1, h.c6, h.ck, ?_, ⟨fun t ht => ?_, ?_⟩⟩
  · show (w.timers ++ _).length ≤ 12
    simp; omega
  · have ht' : t ∈ w.timers ++ [(⟨w.given, c, x.ticks + n, a⟩ : Timer)] := ht
    rcases List.mem_append.mp ht' with q | q
    · obtain ⟨k1, k2, k3, k4⟩ := h.tm.ok t q
      exact ⟨k1, by show t.number < w.given + 1; omega, k3, k4⟩
    · rw [List.mem_singleton.mp q]
      refine ⟨(List.getElem?_eq_some_iff.mp hx).1, by show w.given < w.given + 1; omega, by show a ≤ 1000; omega, ?_⟩
      show tk w.clocks c < x.ticks + n
      unfold tk
      rw [hx]
      show x.ticks < _
      omega
  · show (w.timers ++ [(⟨w.given, c, x.ticks + n, a⟩ : Timer)]).Pairwise _
    rw [List.pairwise_append]
    refine ⟨h.tm.inc, List.pairwise_singleton _ _, fun p hp q hq => ?_⟩
    rw [List.mem_singleton.mp hq]
    exact (h.tm.ok p hp).2.1
theorem stop_ok {w : World} (h : Ok w) (t : Nat) : Ok { w with timers := w.timers.filter fun x => x.number != t } := by
  refine ⟨h.s1, h.s2, h.m1, h.m2, h.c1, h.c6, h.ck, Nat.le_trans (List.length_filter_le _ _) h.t12, ⟨fun x hx => h.tm.ok x (List.mem_filter.mp hx).1, h.tm.inc.filter _⟩⟩
theorem step_ok {w : World} (h : Ok w) (c : Ge03.Call) : Ok (Ge03.step w c).1 := by
  cases c with
  | begins s m =>
    show Ok (if s = 0 ∨ 1000 < s ∨ m = 0 ∨ 50 < m then (w, ([-1] : List Int)) else ({ Ge03.init with step := s, most := m }, [0])).1
    by_cases c : s = 0 ∨ 1000 < s ∨ m = 0 ∨ 50 < m
    · rw [if_pos c]; exact h
    · rw [if_neg c]; exact begin_ok c
  | frame d =>
    unfold Ge03.step
    simp only []
    split
    · exact h
    · exact td_ok _ (framed_ok h _ _)
  | clock o s =>
    unfold Ge03.step
    simp only []
    rw [h.clockOf]
    split
    · exact h
    · split
      · exact h
      · split
        · exact h
        · rename_i c1 c2 c3
          refine clock_ok h c1 ?_ c3
          cases e : w.clocks[o]? with
          | none => rw [e] at c2; simp at c2
          | some x => exact (List.getElem?_eq_some_iff.mp e).1
  | speed c s =>
    unfold Ge03.step
    simp only []
    split
    · exact h
    · split
      · exact h
      · rename_i c1 c2
        exact speed_ok h c1
  | timer c n a =>
    unfold Ge03.step
    simp only []
    rw [h.clockOf]
    split
    · exact h
    · split
      · exact h
      · split
        · exact h
        · rename_i c1 _ x e c3
          exact timer_ok h e c1 c3
  | halt_ t =>
    unfold Ge03.step
    simp only []
    split
    · exact h
    · exact stop_ok h t
  | left t => exact h
  | now c => exact h
  | next => exact h
  | shows => exact h
end Tk

namespace Tk
/-! ### a list of calls -/
/-- a call as numbers -/
def enc : Ge03.Call → List Int
  | .begins s m => [0, (s : Int), (m : Int)]
  | .frame d => [1, (d : Int)]
  | .clock o s => [2, (o : Int), (s : Int)]
  | .speed c s => [3, (c : Int), (s : Int)]
  | .timer c n a => [4, (c : Int), (n : Int), (a : Int)]
  | .halt_ t => [5, (t : Int)]
  | .left t => [6, (t : Int)]
  | .now c => [7, (c : Int)]
  | .next => [8]
  | .shows => [9]
/-- how many numbers a call takes, by its place -/
def wide : List Nat := [3, 2, 3, 3, 4, 2, 2, 2, 1, 1]
def place : Ge03.Call → Nat
  | .begins .. => 0
  | .frame .. => 1
  | .clock .. => 2
  | .speed .. => 3
  | .timer .. => 4
  | .halt_ .. => 5
  | .left .. => 6
  | .now .. => 7
  | .next => 8
  | .shows => 9
theorem wide_enc (x : Ge03.Call) : wide[place x]? = some (enc x).length := by cases x <;> rfl
theorem enc_head (x : Ge03.Call) : (enc x)[0]? = some (place x : Int) := by cases x <;> rfl
theorem whole_id (c : List (List Int)) : PyGe03.whole c = c := by
  unfold PyGe03.whole
  split <;> rfl
theorem map_whole (cs : List (List (List Int))) : cs.map PyGe03.whole = cs := by
  have e : PyGe03.whole = id := funext whole_id
  rw [e, List.map_id]
theorem shape_rows {p : Int} {n k : Nat} (h : PyGe03.shape p = some (n, k)) : k = 0 := by
  unfold PyGe03.shape at h
  repeat' (split at h)
  all_goals first | (injection h with h; injection h with h1 h2; exact h2.symm) | (cases h)
theorem parse_cons {f : Nat} {p : Int} {r : List Int} {cs : List (List (List Int))} (h : PyFlat.calls PyGe03.shape f (p :: r) = some cs) :
    ∃ f' n cs', n ≤ r.length ∧ cs = [p :: r.take n] :: cs' ∧ PyFlat.calls PyGe03.shape f' (r.drop n) = some cs' := by
  cases f with
  | zero => cases h
  | succ f =>
    unfold PyFlat.calls at h
    cases e : PyFlat.call PyGe03.shape (p :: r) with
    | none => rw [e] at h; cases h
    | some ct =>
      obtain ⟨c, t⟩ := ct
      rw [e] at h
      dsimp only at h
      cases e2 : PyFlat.calls PyGe03.shape f t with
      | none => rw [e2] at h; cases h
      | some cs' =>
        rw [e2] at h
        have h' : c :: cs' = cs := Option.some.inj h
        unfold PyFlat.call at e
        dsimp only at e
        cases e3 : PyGe03.shape p with
        | none => rw [e3] at e; cases e
        | some nk =>
          obtain ⟨n, k⟩ := nk
          have k0 := shape_rows e3
          subst k0
          rw [e3] at e
          dsimp only at e
          by_cases c1 : r.length < n
          · rw [if_pos c1] at e; cases e
          · rw [if_neg c1] at e
            have e4 : ([p :: r.take n], r.drop n) = (c, t) := Option.some.inj e
            have ec : [p :: r.take n] = c := congrArg Prod.fst e4
            have et : r.drop n = t := congrArg Prod.snd e4
            subst ec et
            exact ⟨f, n, cs', by omega, h'.symm, e2⟩
theorem parse_nil {f : Nat} {cs : List (List (List Int))} (h : PyFlat.calls PyGe03.shape f [] = some cs) : cs = [] := by
  unfold PyFlat.calls at h
  exact (Option.some.inj h).symm
theorem nat_to {z : Int} (h : Ge03Neutral.nat z = true) : ∃ n : Nat, z = (n : Int) := by
  unfold Ge03Neutral.nat at h
  rw [Bool.and_eq_true, decide_eq_true_iff, decide_eq_true_iff] at h
  exact ⟨z.toNat, by omega⟩
theorem nats_to : ∀ {c : List Int}, c.all Ge03Neutral.nat = true → ∃ l : List Nat, c = l.map fun n : Nat => (n : Int)
  | [], _ => ⟨[], rfl⟩
  | z :: c, h => by
    rw [List.all_cons, Bool.and_eq_true] at h
    obtain ⟨n, rfl⟩ := nat_to h.1
    obtain ⟨l, rfl⟩ := nats_to h.2
    exact ⟨n :: l, rfl⟩
theorem callIn_enc {l : List Nat} {x : Ge03.Call} (h : Ge03Neutral.callIn l = some x) : (l.map fun n : Nat => (n : Int)) = enc x := by
  unfold Ge03Neutral.callIn at h
  split at h <;> first | (cases h; rfl) | (cases h)
theorem asked_call {c : List Int} (h : Ge03Neutral.asked1 c = true) : ∃ x, c = enc x ∧ ∀ w, Ge03Neutral.step w c = Ge03.step w x := by
  unfold Ge03Neutral.asked1 at h
  cases e : Ge03Neutral.callOf c with
  | none => rw [e] at h; cases h
  | some x =>
    refine ⟨x, ?_, fun w => ?_⟩
    · unfold Ge03Neutral.callOf at e
      by_cases c1 : c.all Ge03Neutral.nat = false
      · rw [if_pos c1] at e; cases e
      · rw [if_neg c1] at e
        have c2 : c.all Ge03Neutral.nat = true := by simpa using c1
        obtain ⟨l, rfl⟩ := nats_to c2
        have e2 : (l.map fun n : Nat => (n : Int)).map Int.toNat = l := by
          rw [List.map_map]
          have : (Int.toNat ∘ fun n : Nat => (n : Int)) = id := by funext n; simp
          rw [this, List.map_id]
        rw [e2] at e
        exact callIn_enc e
    · unfold Ge03Neutral.step
      rw [e]
def goes (w : Ge03.World) (cs : List (List (List Int))) : List Int := PyFlat.told (PyFlat.played (fun s c => Ge03Neutral.step s (c.headD [])) w cs)
theorem goes_nil (w : Ge03.World) : goes w [] = [] := rfl
theorem goes_cons (w : Ge03.World) (c : List Int) (cs : List (List (List Int))) {x : Ge03.Call} (h : ∀ w, Ge03Neutral.step w c = Ge03.step w x) : goes w ([c] :: cs) = (((Ge03.step w x).2.length : Nat) : Int) :: (Ge03.step w x).2 ++ goes (Ge03.step w x).1 cs := by
  show PyFlat.told ((Ge03Neutral.step w c).2 :: PyFlat.played _ (Ge03Neutral.step w c).1 cs) = _
  rw [h w]
  rfl
/-- what is known of a list that is handed in -/
theorem asked_all {l : List Int} (h : PyGe03.answers_asked l = true) : ∃ cs, PyFlat.calls PyGe03.shape l.length l = some cs ∧ (∀ c ∈ cs, Ge03Neutral.asked1 (c.headD []) = true) ∧ PyGe03.answers l = goes Ge03.init cs ∧ (PyGe03.answers l).length ≤ 10000000 := by
  unfold PyGe03.answers_asked at h
  cases e : PyFlat.calls PyGe03.shape l.length l with
  | none => rw [e] at h; cases h
  | some cs =>
    rw [e] at h
    dsimp only at h
    rw [map_whole] at h
    simp only [Bool.and_eq_true] at h
    obtain ⟨⟨⟨⟨_, _⟩, _⟩, h4⟩, h5⟩ := h
    refine ⟨cs, rfl, fun c hc => ?_, ?_, ?_⟩
    · unfold Ge03Neutral.asked at h4
      rw [Bool.and_eq_true, List.all_eq_true] at h4
      exact h4.1 _ (List.mem_map.mpr ⟨c, hc, rfl⟩)
    · unfold PyGe03.answers PyGe03.calls
      rw [e]
      dsimp only
      rw [map_whole]
      rfl
    · unfold PyFlat.short at h5
      exact of_decide_eq_true h5
end Tk

namespace Tk
open Ge03 (World Clock Timer clocksTick clockOf rings ringAll tick ticksDone till)
/-! ### what rings next -/
theorem rung_perm {l : List Clock} (h : CkOk l) {ts : List Timer} (ht : ∀ t ∈ ts, t.clock < l.length) : (rung l ts).Perm ((tris (nowOf l) ts).map back) := by
  let le : Nat × Nat × Nat → Nat × Nat × Nat → Bool := fun p q => decide (p.1 < q.1) || (decide (p.1 = q.1) && (decide (p.2.1 < q.2.1) || (decide (p.2.1 = q.2.1) && decide (p.2.2 ≤ q.2.2))))
  have hle : ∀ p q, le p q = true ↔ leT p q := fun p q => by simp [le, leT]
  have hs := List.pairwise_mergeSort (le := le) (fun a b c h1 h2 => (hle a c).mpr (leT_trans ((hle a b).mp h1) ((hle b c).mp h2))) (fun a b => by simp [le]; omega) (tris (nowOf l) ts)
  have hp := List.mergeSort_perm (tris (nowOf l) ts) le
  rw [← sorted_is h ht hp (hs.imp fun {a b} hab => (hle a b).mp hab)]
  exact hp.map back
theorem mem_rung {l : List Clock} (h : CkOk l) {ts : List Timer} (ht : ∀ t ∈ ts, t.clock < l.length) {n : Nat} : (∃ d, (n, d) ∈ rung l ts) ↔ ∃ t ∈ ts, t.number = n ∧ (rings 100 (nowOf l t) t).1 ≠ 0 := by
  constructor
  · rintro ⟨d, hd⟩
    obtain ⟨p, hp, e⟩ := List.mem_map.mp ((rung_perm h ht).mem_iff.mp hd)
    obtain ⟨t, htm, hpt⟩ := List.mem_flatMap.mp hp
    unfold tri at hpt
    obtain ⟨d', hd', e2⟩ := List.mem_map.mp hpt
    refine ⟨t, htm, ?_, fun z => ?_⟩
    · rw [← e2] at e
      exact congrArg Prod.fst e
    · rw [z] at hd'
      simp [duesOf] at hd'
  · rintro ⟨t, htm, rfl, hr⟩
    refine ⟨t.due, (rung_perm h ht).mem_iff.mpr (List.mem_map.mpr ⟨(t.clock, t.due, t.number), List.mem_flatMap.mpr ⟨t, htm, ?_⟩, rfl⟩)⟩
    unfold tri
    refine List.mem_map.mpr ⟨t.due, ?_, rfl⟩
    unfold duesOf
    refine List.mem_map.mpr ⟨0, List.mem_range.mpr (by omega), by omega⟩
theorem num_inj {l : List Clock} {g : Nat} {ts : List Timer} (h : TmOk l g ts) {a b : Timer} (ha : a ∈ ts) (hb : b ∈ ts) (e : a.number = b.number) : a = b := by
  obtain ⟨i, hi⟩ := List.mem_iff_getElem?.mp ha
  obtain ⟨j, hj⟩ := List.mem_iff_getElem?.mp hb
  obtain ⟨hi1, hi2⟩ := List.getElem?_eq_some_iff.mp hi
  obtain ⟨hj1, hj2⟩ := List.getElem?_eq_some_iff.mp hj
  have pw := List.pairwise_iff_getElem.mp h.inc
  rcases Nat.lt_trichotomy i j with q | q | q
  · have := pw i j hi1 hj1 q
    rw [hi2, hj2] at this
    omega
  · subst q
    rw [← hi2, ← hj2]
  · have := pw j i hj1 hi1 q
    rw [hi2, hj2] at this
    omega
/-- a timer of the game rings at the next tick just if its clock gets so far -/
theorem rings_now {w : World} (h : Ok w) {t : Timer} (ht : t ∈ w.timers) : ((rang w).any fun y => y.1 == t.number) = decide (t.due ≤ tk (clocksTick w.clocks).1 t.clock) := by
  have hc : ∀ t ∈ w.timers, t.clock < (clocksTick w.clocks).1.length := fun t ht => by rw [ct_len h.ck]; exact (h.tm.ok t ht).1
  have key : ((rang w).any fun y => y.1 == t.number) = true ↔ t.due ≤ tk (clocksTick w.clocks).1 t.clock := by
    rw [List.any_eq_true]
    have e1 : (∃ x ∈ rang w, (x.1 == t.number) = true) ↔ ∃ d, (t.number, d) ∈ rung (clocksTick w.clocks).1 w.timers := by
      constructor
      · rintro ⟨⟨n, d⟩, hx, e⟩
        have : n = t.number := by simpa using e
        exact ⟨d, this ▸ hx⟩
      · rintro ⟨d, hd⟩
        exact ⟨_, hd, by simp⟩
    rw [e1, mem_rung (ct_ok h.ck) hc]
    constructor
    · rintro ⟨u, hu, e, hr⟩
      have := num_inj h.tm hu ht e
      subst this
      rcases Nat.lt_or_ge (nowOf (clocksTick w.clocks).1 u) u.due with q | q
      · rw [rings_not _ _ _ q] at hr
        exact absurd rfl hr
      · exact q
    · intro q
      refine ⟨t, ht, rfl, ?_⟩
      rcases rings_ways (now_lt h ht) with ⟨c, _⟩ | ⟨_, _, e⟩ | ⟨_, _, j, hj, _, _, e⟩
      · omega
      · show (rings 100 (tk (clocksTick w.clocks).1 t.clock) t).1 ≠ 0
        rw [e]
        decide
      · show (rings 100 (tk (clocksTick w.clocks).1 t.clock) t).1 ≠ 0
        rw [e]
        show j ≠ 0
        omega
  by_cases c : t.due ≤ tk (clocksTick w.clocks).1 t.clock
  · rw [decide_eq_true c]
    exact key.mpr c
  · rw [decide_eq_false c]
    cases e : (rang w).any fun y => y.1 == t.number with
    | false => rfl
    | true => exact absurd (key.mp e) c
/-- it stays as it is where it does not ring -/
theorem stays_as {w : World} (h : Ok w) {t : Timer} (ht : t ∈ w.timers) (c : ¬ t.due ≤ tk (clocksTick w.clocks).1 t.clock) : t ∈ (ticked w).timers := by
  show t ∈ stays (clocksTick w.clocks).1 w.timers
  unfold stays
  refine List.mem_filterMap.mpr ⟨t, ht, ?_⟩
  rw [rings_not _ _ _ (by omega)]
/-- the clocks alone, n ticks on -/
def clk : Nat → List Clock → List Clock
  | 0, l => l
  | n + 1, l => clk n (clocksTick l).1
/-- the first of the next f ticks of the game at which a clock has got so far -/
def firstAt : Nat → List Clock → Nat → Nat → Option Nat
  | 0, _, _, _ => none
  | f + 1, l, c, d => if d ≤ tk (clocksTick l).1 c then some 1 else (firstAt f (clocksTick l).1 c d).map fun n => n + 1
theorem till_first : ∀ (f : Nat) {w : World}, Ok w → ∀ {t : Timer}, t ∈ w.timers → till f w t.number = firstAt f w.clocks t.clock t.due
  | 0, _, _, _, _ => rfl
  | f + 1, w, h, t, ht => by
    show (if ((tick w).2.any fun y => y.1 == t.number) = true then some 1 else (till f (tick w).1 t.number).map fun n => n + 1) = _
    rw [tick_eq h]
    dsimp only
    rw [rings_now h ht]
    unfold firstAt
    by_cases c : t.due ≤ tk (clocksTick w.clocks).1 t.clock
    · rw [if_pos (decide_eq_true c), if_pos c]
    · rw [if_neg (by rw [decide_eq_false c]; decide), if_neg c, till_first f (ticked_ok h) (stays_as h ht c)]
      rfl
/-- the worlds n ticks on -/
def wtk : Nat → World → World
  | 0, w => w
  | n + 1, w => wtk n (ticked w)
theorem wtk_succ : ∀ (n : Nat) (w : World), wtk (n + 1) w = ticked (wtk n w)
  | 0, _ => rfl
  | n + 1, w => wtk_succ n (ticked w)
theorem wtk_ok : ∀ (n : Nat) {w : World}, Ok w → Ok (wtk n w)
  | 0, _, h => h
  | n + 1, _, h => wtk_ok n (ticked_ok h)
theorem wtk_td : ∀ (n : Nat) {w : World}, Ok w → (ticksDone n w).1 = wtk n w
  | 0, _, _ => rfl
  | n + 1, w, h => by
    rw [td_succ h]
    exact wtk_td n (ticked_ok h)
theorem clk_succ : ∀ (n : Nat) (l : List Clock), clk (n + 1) l = (clocksTick (clk n l)).1
  | 0, _ => rfl
  | n + 1, l => clk_succ n (clocksTick l).1
theorem wtk_clocks : ∀ (n : Nat) (w : World), (wtk n w).clocks = clk n w.clocks
  | 0, _ => rfl
  | n + 1, w => wtk_clocks n (ticked w)
theorem clk_ok : ∀ (n : Nat) {l : List Clock}, CkOk l → CkOk (clk n l)
  | 0, _, h => h
  | n + 1, _, h => clk_ok n (ct_ok h)
theorem clk_len : ∀ (n : Nat) {l : List Clock}, CkOk l → (clk n l).length = l.length
  | 0, _, _ => rfl
  | n + 1, l, h => by
    show (clk n (clocksTick l).1).length = _
    rw [clk_len n (ct_ok h), ct_len h]
theorem first_some : ∀ {f : Nat} {l : List Clock} {c d n : Nat}, firstAt f l c d = some n ↔ 1 ≤ n ∧ n ≤ f ∧ d ≤ tk (clk n l) c ∧ ∀ j, 1 ≤ j → j < n → ¬ d ≤ tk (clk j l) c
  | 0, l, c, d, n => by
    constructor
    · intro h; cases h
    · rintro ⟨h1, h2, _⟩; omega
  | f + 1, l, c, d, n => by
    unfold firstAt
    by_cases q : d ≤ tk (clocksTick l).1 c
    · rw [if_pos q]
      constructor
      · intro h
        cases h
        exact ⟨by omega, by omega, q, fun j h1 h2 => by omega⟩
      · rintro ⟨h1, h2, h3, h4⟩
        rcases Nat.lt_or_ge 1 n with z | z
        · exact absurd q (h4 1 (by omega) z)
        · have : n = 1 := by omega
          rw [this]
    · rw [if_neg q]
      constructor
      · intro h
        cases e : firstAt f (clocksTick l).1 c d with
        | none => rw [e] at h; cases h
        | some m =>
          rw [e] at h
          have hm : m + 1 = n := Option.some.inj h
          obtain ⟨a1, a2, a3, a4⟩ := first_some.mp e
          subst hm
          refine ⟨by omega, by omega, a3, fun j h1 h2 => ?_⟩
          cases j with
          | zero => omega
          | succ j =>
            cases j with
            | zero => exact q
            | succ j => exact a4 (j + 1) (by omega) (by omega)
      · rintro ⟨h1, h2, h3, h4⟩
        cases n with
        | zero => omega
        | succ n =>
          cases n with
          | zero => exact absurd h3 q
          | succ n =>
            have e : firstAt f (clocksTick l).1 c d = some (n + 1) := first_some.mpr ⟨by omega, by omega, h3, fun j k1 k2 => h4 (j + 1) (by omega) (by omega)⟩
            rw [e]
            rfl
theorem first_none {f : Nat} {l : List Clock} {c d : Nat} : firstAt f l c d = none ↔ ∀ j, 1 ≤ j → j ≤ f → ¬ d ≤ tk (clk j l) c := by
  induction f generalizing l with
  | zero =>
    constructor
    · intro _ j h1 h2; omega
    · intro _; rfl
  | succ f ih =>
    unfold firstAt
    by_cases q : d ≤ tk (clocksTick l).1 c
    · rw [if_pos q]
      constructor
      · intro h; cases h
      · intro h; exact absurd q (h 1 (by omega) (by omega))
    · rw [if_neg q, Option.map_eq_none_iff, ih]
      constructor
      · intro h j h1 h2
        cases j with
        | zero => omega
        | succ j =>
          cases j with
          | zero => exact q
          | succ j => exact h (j + 1) (by omega) (by omega)
      · intro h j h1 h2
        exact h (j + 1) (by omega) (by omega)
end Tk

/-! ### the heap: how a world lies in it -/
namespace Tk
open PySem PySem.Spec PyProof.Rows L2
abbrev GClock := Ge03.Clock
abbrev GTimer := Ge03.Timer
abbrev GWorld := Ge03.World
def hv : Nat → V
  | 0 => .non
  | n + 1 => .int (n : Int)
def cF (c : GClock) : List (Str × V) := [("hangs_on", hv c.on), ("speed", .int (c.speed : Int)), ("ticks", .int (c.ticks : Int)), ("hundredths", .int (c.rest : Int))]
def tF (t : GTimer) : List (Str × V) := [("number", .int (t.number : Int)), ("clock", .int (t.clock : Int)), ("due", .int (t.due : Int)), ("again", .int (t.again : Int))]
def gF (w : GWorld) (lc lt : Addr) : List (Str × V) := [("step", .int (w.step : Int)), ("most", .int (w.most : Int)), ("left_over", .int (w.rest : Int)), ("ticks", .int (w.ticks : Int)), ("lost", .int (w.lost : Int)), ("clocks", .ref lc), ("timers", .ref lt), ("timers_given", .int (w.given : Int))]
/-! fields found and stored -/
theorem lk_here {k : Str} {v : V} {r : List (Str × V)} : List.lookup k ((k, v) :: r) = some v := by
  have e : (k == k) = true := beq_self_eq_true k
  simp only [List.lookup, e]
theorem lk_past {k g : Str} {v : V} {r : List (Str × V)} (h : (k == g) = false) : List.lookup k ((g, v) :: r) = List.lookup k r := by
  simp only [List.lookup, h]
theorem lk_none {k : Str} : List.lookup k ([] : List (Str × V)) = none := rfl
theorem put_here {f : Str} {v x : V} {r : List (Str × V)} : putF f v ((f, x) :: r) = (f, v) :: r := if_pos rfl
theorem put_past {f g : Str} {v x : V} {r : List (Str × V)} (h : ¬ g = f) : putF f v ((g, x) :: r) = (g, x) :: putF f v r := if_neg h
theorem put_nil {f : Str} {v : V} : putF f v [] = [(f, v)] := rfl
/-- objects of one class, side by side -/
structure Objs {α : Type} (C : Addr) (f : α → List (Str × V)) (H0 H : Hp) (as : List Addr) (xs : List α) : Prop where
  len : as.length = xs.length
  nd : as.Nodup
  free : ∀ a ∈ as, H0 a = none
  at_ : ∀ (i : Nat) (a : Addr) (x : α), as[i]? = some a → xs[i]? = some x → ∃ dx, H a = some (.ins C dx (f x))
structure GX (CG CC CT : Addr) (H0 H : Hp) (g dx lc lt : Addr) (cas tas : List Addr) (w : GWorld) : Prop where
  s : Same H0 H
  g0 : H0 g = none
  hg : H g = some (.ins CG dx (gF w lc lt))
  lc0 : H0 lc = none
  hc : H lc = some (.lst (cas.map V.ref))
  lt0 : H0 lt = none
  ht : H lt = some (.lst (tas.map V.ref))
  ne : lc ≠ lt
  cl : Objs CC cF H0 H cas w.clocks
  tm : Objs CT tF H0 H tas w.timers
def GameAt (CG CC CT : Addr) (H0 H : Hp) (g : Addr) (w : GWorld) : Prop := ∃ dx lc lt cas tas, GX CG CC CT H0 H g dx lc lt cas tas w
section
variable {α : Type} {C CG CC CT : Addr} {f : α → List (Str × V)} {H0 H1 H : Hp} {as cas tas : List Addr} {xs : List α} {g dx lc lt : Addr} {w w' : GWorld}
theorem Objs.mem (h : Objs C f H0 H as xs) {a : Addr} (ha : a ∈ as) : ∃ x dx, H a = some (.ins C dx (f x)) := by
  obtain ⟨i, hi⟩ := List.mem_iff_getElem?.mp ha
  have hl : i < xs.length := by rw [← h.len]; exact (List.getElem?_eq_some_iff.mp hi).1
  exact ⟨xs[i], h.at_ i a _ hi (List.getElem?_eq_getElem hl)⟩
theorem Objs.weak (h : Objs C f H0 H as xs) (s : Same H1 H0) : Objs C f H1 H as xs := ⟨h.len, h.nd, fun a ha => s.free (h.free a ha), h.at_⟩
/-- something else is stored or made -/
theorem Objs.other (h : Objs C f H0 H as xs) {p : Addr} {o : HO} (n : ∀ a ∈ as, a ≠ p) : Objs C f (upd H0 p o) (upd H p o) as xs :=
  ⟨h.len, h.nd, fun a ha => by rw [upd_ne (n a ha)]; exact h.free a ha, fun i a x hi hx => by
    rw [upd_ne (n a (List.mem_of_getElem? hi))]
    exact h.at_ i a x hi hx⟩
theorem Objs.others (h : Objs C f H0 H as xs) {p : Addr} {o : HO} (n : ∀ a ∈ as, a ≠ p) : Objs C f H0 (upd H p o) as xs :=
  ⟨h.len, h.nd, h.free, fun i a x hi hx => by
    rw [upd_ne (n a (List.mem_of_getElem? hi))]
    exact h.at_ i a x hi hx⟩
/-- one of them is stored into -/
theorem Objs.set (h : Objs C f H0 H as xs) {i : Nat} {a : Addr} {d : Addr} {x' : α} (hi : as[i]? = some a) : Objs C f H0 (upd H a (.ins C d (f x'))) as (xs.set i x') := by
  refine ⟨by rw [List.length_set]; exact h.len, h.nd, h.free, fun j b x hj hx => ?_⟩
  by_cases e : i = j
  · subst e
    have eb : a = b := Option.some.inj (hi.symm.trans hj)
    subst eb
    have hlt : i < xs.length := by rw [← h.len]; exact (List.getElem?_eq_some_iff.mp hi).1
    rw [List.getElem?_set_self hlt] at hx
    cases hx
    exact ⟨d, upd_same⟩
  · have nb : b ≠ a := fun z => by
      subst z
      obtain ⟨h1, e1⟩ := List.getElem?_eq_some_iff.mp hi
      obtain ⟨h2, e2⟩ := List.getElem?_eq_some_iff.mp hj
      exact e ((List.getElem_inj h.nd).mp (e1.trans e2.symm))
    rw [List.getElem?_set_ne e] at hx
    rw [upd_ne nb]
    exact h.at_ j b x hj hx
theorem same_stored {p : Addr} {o : HO} (s : Same H0 H) (n : H0 p = none) : Same H0 (upd H p o) := fun b u e => by
  have nb : b ≠ p := fun z => by rw [z, n] at e; cases e
  rw [upd_ne nb]
  exact s b u e
theorem same_both {p : Addr} {o : HO} (s : Same H0 H) : Same (upd H0 p o) (upd H p o) := fun b u e => by
  by_cases c : b = p
  · subst c
    rw [upd_same] at e ⊢
    exact e
  · rw [upd_ne c] at e ⊢
    exact s b u e
theorem same_new {p : Addr} {o : HO} (n : H0 p = none) : Same H0 (upd H0 p o) := same_stored (Same.refl H0) n
theorem GX.weak (h : GX CG CC CT H0 H g dx lc lt cas tas w) (s : Same H1 H0) : GX CG CC CT H1 H g dx lc lt cas tas w :=
  ⟨s.trans h.s, s.free h.g0, h.hg, s.free h.lc0, h.hc, s.free h.lt0, h.ht, h.ne, h.cl.weak s, h.tm.weak s⟩
theorem GX.apart (h : GX CG CC CT H0 H g dx lc lt cas tas w) {p : Addr} (n : (∃ o, H0 p = some o) ∨ H p = none) : g ≠ p ∧ lc ≠ p ∧ lt ≠ p ∧ (∀ a ∈ cas, a ≠ p) ∧ (∀ a ∈ tas, a ≠ p) := by
  have key : ∀ a, H0 a = none → (∃ o, H a = some o) → a ≠ p := fun a h0 ⟨o, h1⟩ z => by
    subst z
    rcases n with ⟨u, n⟩ | n
    · rw [h0] at n; cases n
    · rw [h1] at n; cases n
  refine ⟨key g h.g0 ⟨_, h.hg⟩, key lc h.lc0 ⟨_, h.hc⟩, key lt h.lt0 ⟨_, h.ht⟩, fun a ha => ?_, fun a ha => ?_⟩
  · obtain ⟨x, d, e⟩ := h.cl.mem ha
    exact key a (h.cl.free a ha) ⟨_, e⟩
  · obtain ⟨x, d, e⟩ := h.tm.mem ha
    exact key a (h.tm.free a ha) ⟨_, e⟩
/-- what is none of the game's is stored or made -/
theorem GX.put (h : GX CG CC CT H0 H g dx lc lt cas tas w) {p : Addr} {o : HO} (n : (∃ o, H0 p = some o) ∨ H p = none) : GX CG CC CT (upd H0 p o) (upd H p o) g dx lc lt cas tas w := by
  obtain ⟨n1, n2, n3, n4, n5⟩ := h.apart n
  exact ⟨same_both h.s, by rw [upd_ne n1]; exact h.g0, by rw [upd_ne n1]; exact h.hg, by rw [upd_ne n2]; exact h.lc0, by rw [upd_ne n2]; exact h.hc, by rw [upd_ne n3]; exact h.lt0, by rw [upd_ne n3]; exact h.ht, h.ne, h.cl.other n4, h.tm.other n5⟩
theorem GameAt.put (h : GameAt CG CC CT H0 H g w) {p : Addr} {o : HO} (n : (∃ o, H0 p = some o) ∨ H p = none) : GameAt CG CC CT (upd H0 p o) (upd H p o) g w := by
  obtain ⟨dx, lc, lt, cas, tas, X⟩ := h
  exact ⟨dx, lc, lt, cas, tas, X.put n⟩
theorem GameAt.weak (h : GameAt CG CC CT H0 H g w) (s : Same H1 H0) : GameAt CG CC CT H1 H g w := by
  obtain ⟨dx, lc, lt, cas, tas, X⟩ := h
  exact ⟨dx, lc, lt, cas, tas, X.weak s⟩
theorem GameAt.same (h : GameAt CG CC CT H0 H g w) : Same H0 H := by
  obtain ⟨_, _, _, _, _, X⟩ := h
  exact X.s
theorem cF_ne_tF (c : GClock) (t : GTimer) : cF c ≠ tF t := fun e => by
  have h : ("hangs_on" : Str) = "number" := congrArg Prod.fst (List.cons.inj e).1
  exact absurd h (by decide +kernel)
theorem cF_ne_gF (c : GClock) (w : GWorld) (lc lt : Addr) : cF c ≠ gF w lc lt := fun e => by
  have h : ("hangs_on" : Str) = "step" := congrArg Prod.fst (List.cons.inj e).1
  exact absurd h (by decide +kernel)
theorem tF_ne_gF (t : GTimer) (w : GWorld) (lc lt : Addr) : tF t ≠ gF w lc lt := fun e => by
  have h : ("number" : Str) = "step" := congrArg Prod.fst (List.cons.inj e).1
  exact absurd h (by decide +kernel)
theorem GX.cas_ne (h : GX CG CC CT H0 H g dx lc lt cas tas w) {a : Addr} (ha : a ∈ cas) : a ≠ g ∧ a ≠ lc ∧ a ≠ lt ∧ ∀ b ∈ tas, b ≠ a := by
  obtain ⟨x, d, e⟩ := h.cl.mem ha
  refine ⟨ne_of e h.hg fun z => ?_, ne_of e h.hc (fun z => nomatch z), ne_of e h.ht (fun z => nomatch z), fun b hb => ?_⟩
  · exact cF_ne_gF _ _ _ _ (HO.ins.inj z).2.2
  · obtain ⟨y, d2, e2⟩ := h.tm.mem hb
    exact ne_of e2 e fun z => cF_ne_tF _ _ (HO.ins.inj z).2.2.symm
theorem GX.tas_ne (h : GX CG CC CT H0 H g dx lc lt cas tas w) {a : Addr} (ha : a ∈ tas) : a ≠ g ∧ a ≠ lc ∧ a ≠ lt ∧ ∀ b ∈ cas, b ≠ a := by
  obtain ⟨x, d, e⟩ := h.tm.mem ha
  refine ⟨ne_of e h.hg fun z => ?_, ne_of e h.hc (fun z => nomatch z), ne_of e h.ht (fun z => nomatch z), fun b hb => ?_⟩
  · exact tF_ne_gF _ _ _ _ (HO.ins.inj z).2.2
  · obtain ⟨y, d2, e2⟩ := h.cl.mem hb
    exact ne_of e2 e fun z => cF_ne_tF _ _ (HO.ins.inj z).2.2
theorem GX.g_ne (h : GX CG CC CT H0 H g dx lc lt cas tas w) : lc ≠ g ∧ lt ≠ g := ⟨ne_of h.hc h.hg (fun z => nomatch z), ne_of h.ht h.hg (fun z => nomatch z)⟩
/-- a clock of the game is stored into -/
theorem GX.setClock (h : GX CG CC CT H0 H g dx lc lt cas tas w) {i : Nat} {a d : Addr} {c' : GClock} (hi : cas[i]? = some a) : GX CG CC CT H0 (upd H a (.ins CC d (cF c'))) g dx lc lt cas tas { w with clocks := w.clocks.set i c' } := by
  have ha : a ∈ cas := List.mem_of_getElem? hi
  obtain ⟨n1, n2, n3, n4⟩ := h.cas_ne ha
  exact ⟨same_stored h.s (h.cl.free a ha), h.g0, by rw [upd_ne n1.symm]; exact h.hg, h.lc0, by rw [upd_ne n2.symm]; exact h.hc, h.lt0, by rw [upd_ne n3.symm]; exact h.ht, h.ne, h.cl.set hi, h.tm.others n4⟩
theorem GX.setTimer (h : GX CG CC CT H0 H g dx lc lt cas tas w) {i : Nat} {a d : Addr} {t' : GTimer} (hi : tas[i]? = some a) : GX CG CC CT H0 (upd H a (.ins CT d (tF t'))) g dx lc lt cas tas { w with timers := w.timers.set i t' } := by
  have ha : a ∈ tas := List.mem_of_getElem? hi
  obtain ⟨n1, n2, n3, n4⟩ := h.tas_ne ha
  exact ⟨same_stored h.s (h.tm.free a ha), h.g0, by rw [upd_ne n1.symm]; exact h.hg, h.lc0, by rw [upd_ne n2.symm]; exact h.hc, h.lt0, by rw [upd_ne n3.symm]; exact h.ht, h.ne, h.cl.others n4, h.tm.set hi⟩
/-- the game's own numbers are stored into -/
theorem GX.setG (h : GX CG CC CT H0 H g dx lc lt cas tas w) (hw : w'.clocks = w.clocks) (hw2 : w'.timers = w.timers) : GX CG CC CT H0 (upd H g (.ins CG dx (gF w' lc lt))) g dx lc lt cas tas w' := by
  obtain ⟨n1, n2⟩ := h.g_ne
  exact ⟨same_stored h.s h.g0, h.g0, upd_same, h.lc0, by rw [upd_ne n1]; exact h.hc, h.lt0, by rw [upd_ne n2]; exact h.ht, h.ne, by rw [hw]; exact h.cl.others fun a ha => (h.cas_ne ha).1, by rw [hw2]; exact h.tm.others fun a ha => (h.tas_ne ha).1⟩
end
end Tk

namespace Tk
open PySem PySem.Spec PyProof.Rows L2
def top (i : Nat) : Stmt := PySem.Challenge.pw_tickclocks_s01_answers.main.body.getD i (.Pass ⟨0, 0, 0, 0⟩)
abbrev pClock : Nat := 27
abbrev pMove : Nat := 28
abbrev pTimer : Nat := 29
abbrev pGame : Nat := 30
abbrev sCInit : Stmt := inClass (top pClock) 0
abbrev sGoOn : Stmt := inClass (top pClock) 1
abbrev sTwin : Stmt := inClass (top pClock) 2
abbrev sMove : Stmt := top pMove
abbrev sTInit : Stmt := inClass (top pTimer) 0
abbrev sDues : Stmt := inClass (top pTimer) 1
abbrev sFirst : Stmt := inClass (top pTimer) 2
/-- what the top has written of the classes -/
structure Txt (K : PySem.W.Frag) (mg : Str → Option Value) (CG CC CT : Addr) : Prop where
  clC : Cls K CC
  c1 : NoAttr K CC "hangs_on"
  c2 : NoAttr K CC "speed"
  c3 : NoAttr K CC "ticks"
  c4 : NoAttr K CC "hundredths"
  clT : Cls K CT
  t1 : NoAttr K CT "number"
  t2 : NoAttr K CT "clock"
  t3 : NoAttr K CT "due"
  t4 : NoAttr K CT "again"
  clG : Cls K CG
  g1 : NoAttr K CG "step"
  g2 : NoAttr K CG "most"
  g3 : NoAttr K CG "left_over"
  g4 : NoAttr K CG "ticks"
  g5 : NoAttr K CG "lost"
  g6 : NoAttr K CG "clocks"
  g7 : NoAttr K CG "timers"
  g8 : NoAttr K CG "timers_given"
  mgC : mg "Clock" = some (.ref CC)
  mgT : mg "Timer" = some (.ref CT)
  mgG : mg "Game" = some (.ref CG)
  len : mg "len" = none
  min : mg "min" = none
  srt : mg "sorted" = none
  enu : mg "enumerate" = none
  oob : ∃ t, mg "OUT_OF_BOUNDS" = some (.int (-1) t)
  nsc : ∃ t, mg "NO_SUCH_CLOCK" = some (.int (-2) t)
  nst : ∃ t, mg "NO_SUCH_TIMER" = some (.int (-2) t)
  tooM : ∃ t, mg "TOO_MANY" = some (.int (-5) t)
  fstep : ∃ t, mg "FIRST_STEP" = some (.int 16 t)
  fmost : ∃ t, mg "FIRST_MOST" = some (.int 5 t)
  fspeed : ∃ t, mg "FULL_SPEED" = some (.int 100 t)
  hstep : ∃ t, mg "HIGHEST_STEP" = some (.int 1000 t)
  hmost : ∃ t, mg "HIGHEST_MOST" = some (.int 50 t)
  hparts : ∃ t, mg "HIGHEST_PARTS" = some (.int 100000 t)
  hspeed : ∃ t, mg "HIGHEST_SPEED" = some (.int 200 t)
  hbehind : ∃ t, mg "HIGHEST_BEHIND" = some (.int 1000 t)
  hagain : ∃ t, mg "HIGHEST_AGAIN" = some (.int 1000 t)
  cmost : ∃ t, mg "CLOCKS_AT_MOST" = some (.int 6 t)
  tmost : ∃ t, mg "TIMERS_AT_MOST" = some (.int 12 t)
  ahead : ∃ t, mg "TICKS_AHEAD" = some (.int 300 t)
  k0 : ∃ t, mg "BEGINS" = some (.int 0 t)
  k1 : ∃ t, mg "FRAME" = some (.int 1 t)
  k2 : ∃ t, mg "CLOCK" = some (.int 2 t)
  k3 : ∃ t, mg "SPEED" = some (.int 3 t)
  k4 : ∃ t, mg "TIMER" = some (.int 4 t)
  k5 : ∃ t, mg "STOP" = some (.int 5 t)
  k6 : ∃ t, mg "LEFT" = some (.int 6 t)
  k7 : ∃ t, mg "NOW" = some (.int 7 t)
  k8 : ∃ t, mg "NEXT" = some (.int 8 t)
section fields
variable (c : GClock) (t : GTimer) (w : GWorld) (lc lt : Addr)
theorem cF_on : (cF c).lookup ("hangs_on" : Str) = some (hv c.on) := lk_here
theorem cF_speed : (cF c).lookup ("speed" : Str) = some (.int (c.speed : Int)) := (lk_past (by decide +kernel)).trans lk_here
theorem cF_ticks : (cF c).lookup ("ticks" : Str) = some (.int (c.ticks : Int)) := (lk_past (by decide +kernel)).trans ((lk_past (by decide +kernel)).trans lk_here)
theorem cF_rest : (cF c).lookup ("hundredths" : Str) = some (.int (c.rest : Int)) := (lk_past (by decide +kernel)).trans ((lk_past (by decide +kernel)).trans ((lk_past (by decide +kernel)).trans lk_here))
theorem cF_go : (cF c).lookup ("go_on" : Str) = none := (lk_past (by decide +kernel)).trans ((lk_past (by decide +kernel)).trans ((lk_past (by decide +kernel)).trans ((lk_past (by decide +kernel)).trans lk_none)))
theorem cF_twin : (cF c).lookup ("twin" : Str) = none := (lk_past (by decide +kernel)).trans ((lk_past (by decide +kernel)).trans ((lk_past (by decide +kernel)).trans ((lk_past (by decide +kernel)).trans lk_none)))
theorem cF_putR (n : Nat) : putF "hundredths" (.int (n : Int)) (cF c) = cF { c with rest := n } := (put_past (by decide +kernel)).trans (congrArg _ ((put_past (by decide +kernel)).trans (congrArg _ ((put_past (by decide +kernel)).trans (congrArg _ put_here)))))
theorem cF_putT (n : Nat) : putF "ticks" (.int (n : Int)) (cF c) = cF { c with ticks := n } := (put_past (by decide +kernel)).trans (congrArg _ ((put_past (by decide +kernel)).trans (congrArg _ put_here)))
theorem cF_putS (n : Nat) : putF "speed" (.int (n : Int)) (cF c) = cF { c with speed := n } := (put_past (by decide +kernel)).trans (congrArg _ put_here)
theorem cF_new (o s num : Nat) : putF "hundredths" (.int 0) (putF "ticks" (.int 0) (putF "speed" (.int (s : Int)) (putF "hangs_on" (hv o) []))) = cF ⟨num, o, s, 0, 0⟩ := by
  repeat (first | rw [put_nil] | rw [put_past (by decide +kernel)])
  rfl
theorem tF_number : (tF t).lookup ("number" : Str) = some (.int (t.number : Int)) := lk_here
theorem tF_clock : (tF t).lookup ("clock" : Str) = some (.int (t.clock : Int)) := (lk_past (by decide +kernel)).trans lk_here
theorem tF_due : (tF t).lookup ("due" : Str) = some (.int (t.due : Int)) := (lk_past (by decide +kernel)).trans ((lk_past (by decide +kernel)).trans lk_here)
theorem tF_again : (tF t).lookup ("again" : Str) = some (.int (t.again : Int)) := (lk_past (by decide +kernel)).trans ((lk_past (by decide +kernel)).trans ((lk_past (by decide +kernel)).trans lk_here))
theorem tF_dues : (tF t).lookup ("take_dues" : Str) = none := (lk_past (by decide +kernel)).trans ((lk_past (by decide +kernel)).trans ((lk_past (by decide +kernel)).trans ((lk_past (by decide +kernel)).trans lk_none)))
theorem tF_first : (tF t).lookup ("first_ring" : Str) = none := (lk_past (by decide +kernel)).trans ((lk_past (by decide +kernel)).trans ((lk_past (by decide +kernel)).trans ((lk_past (by decide +kernel)).trans lk_none)))
theorem tF_putD (n : Nat) : putF "due" (.int (n : Int)) (tF t) = tF { t with due := n } := (put_past (by decide +kernel)).trans (congrArg _ ((put_past (by decide +kernel)).trans (congrArg _ put_here)))
theorem tF_new (n c d a : Nat) : putF "again" (.int (a : Int)) (putF "due" (.int (d : Int)) (putF "clock" (.int (c : Int)) (putF "number" (.int (n : Int)) []))) = tF ⟨n, c, d, a⟩ := by
  repeat (first | rw [put_nil] | rw [put_past (by decide +kernel)])
  rfl
end fields
theorem if_true_of {c : Bool} {A B : Prop} (hc : c = true) (h : A) : if c = true then A else B := by
  rw [if_pos hc]
  exact h
theorem if_false_of {c : Bool} {A B : Prop} (hc : c = false) (h : B) : if c = true then A else B := by
  rw [hc, if_neg Bool.false_ne_true]
  exact h
def vN (l : List Nat) : List V := l.map fun d : Nat => V.int (d : Int)
/-! ### the promises of the leaves -/
def spCInit (CC : Addr) : Sp := fun vs H Q _ => ∃ (p dx : Addr) (o s : Nat), vs = [.ref p, hv o, .int (s : Int)] ∧ H p = some (.ins CC dx []) ∧ ∀ num, Q .non (upd H p (.ins CC dx (cF ⟨num, o, s, 0, 0⟩)))
def spTwin (CC : Addr) : Sp := fun vs H Q _ => ∃ (p dx : Addr) (c : GClock), vs = [.ref p] ∧ H p = some (.ins CC dx (cF c)) ∧ ∀ q d, H q = none → H d = none → d ≠ q → Q (.ref q) (upd (upd H d (.own q)) q (.ins CC d (cF c)))
def spTInit (CT : Addr) : Sp := fun vs H Q _ => ∃ (p dx : Addr) (n c d a : Nat), vs = [.ref p, .int (n : Int), .int (c : Int), .int (d : Int), .int (a : Int)] ∧ H p = some (.ins CT dx []) ∧ Q .non (upd H p (.ins CT dx (tF ⟨n, c, d, a⟩)))
def spGoOn (CC : Addr) : Sp := fun vs H Q _ => ∃ (p dx : Addr) (c : GClock) (up : Nat), vs = [.ref p, .int (up : Int)] ∧ H p = some (.ins CC dx (cF c)) ∧ c.speed ≤ 200 ∧ Q (.int (mv c up : Int)) (upd H p (.ins CC dx (cF (goOn c up))))
/-- the dues in a new list; the timer is due later then (where it rings again) -/
def after (now : Nat) (t : GTimer) : GTimer := ((Ge03.rings 100 now t).2).getD t
def spDues (CT : Addr) : Sp := fun vs H Q _ => ∃ (p dx : Addr) (t : GTimer) (now : Nat), vs = [.ref p, .int (now : Int)] ∧ H p = some (.ins CT dx (tF t)) ∧ now < t.due + 64 ∧
  ∀ q H', H q = none → H' q = some (.lst (vN (duesOf t (Ge03.rings 100 now t).1))) → H' p = some (.ins CT dx (tF (after now t))) → (∀ b, b ≠ p → b ≠ q → H' b = H b) → Q (.ref q) H'
section
variable {P : Program} {w : World} {K : PySem.W.Frag} {mg : Str → Option Value} {base : Heap} {CG CC CT : Addr}
theorem scCI : FnScope ["self", "hangs_on", "speed"] ["self", "hangs_on", "speed"] (defScope sCInit) := ⟨rfl, rfl, rfl, by decide +kernel, rfl, by decide +kernel, by decide +kernel⟩
theorem ok_cinit {f : Addr} {fd : FuncData} (F : Fun K "__init__" "Clock.__init__" sCInit f fd) (T : Txt K mg CG CC CT) : FnOk P w K mg base CX0 1 f fd ["self", "hangs_on", "speed"] (spCInit CC) := by
  refine F.ok scCI (fun vs H Q E h => ?_) (fun cdv A outer s H vs Q E hr h => ?_)
  · obtain ⟨p, dx, o, s, rfl, _⟩ := h
    rfl
  · obtain ⟨p, dx, o, s, rfl, hp, k⟩ := h
    refine ⟨_, pss_cons (ps_fld (pv 0) (pv 1) rfl) (pss_cons (ps_fld (pv 0) (pv 2) rfl) (pss_cons (ps_fld (pv 0) pe_int rfl) (pss_one (ps_fld (pv 0) pe_int rfl)))), ?_⟩
    refine ⟨_, rfl, _, rfl, p, CC, dx, [], rfl, hp, T.clC, T.c1, (by show 0 < 1000; decide), ?_⟩
    refine ⟨_, rfl, _, rfl, p, CC, dx, _, rfl, upd_same, T.clC, T.c2, (by show 1 < 1000; decide), ?_⟩
    rw [upd_upd]
    refine ⟨_, rfl, p, CC, dx, _, rfl, upd_same, T.clC, T.c3, (by (repeat (first | rw [put_nil] | rw [put_past (by decide +kernel)])); show 2 < 1000; decide), ?_⟩
    rw [upd_upd]
    refine ⟨_, rfl, p, CC, dx, _, rfl, upd_same, T.clC, T.c4, (by (repeat (first | rw [put_nil] | rw [put_past (by decide +kernel)])); show 3 < 1000; decide), ?_⟩
    rw [upd_upd, cF_new o s 0]
    exact k 0
theorem scTI : FnScope ["self", "number", "clock", "due", "again"] ["self", "number", "clock", "due", "again"] (defScope sTInit) := ⟨rfl, rfl, rfl, by decide +kernel, rfl, by decide +kernel, by decide +kernel⟩
theorem ok_tinit {f : Addr} {fd : FuncData} (F : Fun K "__init__" "Timer.__init__" sTInit f fd) (T : Txt K mg CG CC CT) : FnOk P w K mg base CX0 1 f fd ["self", "number", "clock", "due", "again"] (spTInit CT) := by
  refine F.ok scTI (fun vs H Q E h => ?_) (fun cdv A outer s H vs Q E hr h => ?_)
  · obtain ⟨p, dx, n, c, d, a, rfl, _⟩ := h
    rfl
  · obtain ⟨p, dx, n, c, d, a, rfl, hp, k⟩ := h
    refine ⟨_, pss_cons (ps_fld (pv 0) (pv 1) rfl) (pss_cons (ps_fld (pv 0) (pv 2) rfl) (pss_cons (ps_fld (pv 0) (pv 3) rfl) (pss_one (ps_fld (pv 0) (pv 4) rfl)))), ?_⟩
    refine ⟨_, rfl, _, rfl, p, CT, dx, [], rfl, hp, T.clT, T.t1, (by show 0 < 1000; decide), ?_⟩
    refine ⟨_, rfl, _, rfl, p, CT, dx, _, rfl, upd_same, T.clT, T.t2, (by show 1 < 1000; decide), ?_⟩
    rw [upd_upd]
    refine ⟨_, rfl, _, rfl, p, CT, dx, _, rfl, upd_same, T.clT, T.t3, (by (repeat (first | rw [put_nil] | rw [put_past (by decide +kernel)])); show 2 < 1000; decide), ?_⟩
    rw [upd_upd]
    refine ⟨_, rfl, _, rfl, p, CT, dx, _, rfl, upd_same, T.clT, T.t4, (by (repeat (first | rw [put_nil] | rw [put_past (by decide +kernel)])); show 3 < 1000; decide), ?_⟩
    rw [upd_upd, tF_new]
    exact k
theorem scGo : FnScope ["self", "given", "share"] ["self", "given"] (defScope sGoOn) := ⟨rfl, rfl, rfl, by decide +kernel, rfl, by decide +kernel, by decide +kernel⟩
theorem ok_goOn {f : Addr} {fd : FuncData} (F : Fun K "go_on" "Clock.go_on" sGoOn f fd) (T : Txt K mg CG CC CT) : FnOk P w K mg base CX0 1 f fd ["self", "given"] (spGoOn CC) := by
  refine F.ok scGo (fun vs H Q E h => ?_) (fun cdv A outer s H vs Q E hr h => ?_)
  · obtain ⟨p, dx, c, up, rfl, _⟩ := h
    rfl
  · obtain ⟨p, dx, c, up, rfl, hp, hs, k⟩ := h
    refine ⟨_, pss_cons (ps_set (i := 2) scGo.nd rfl (Or.inl rfl) (pe_op op_add (pe_fld (pv 0) rfl) (pe_op op_mul (pe_fld (pv 0) rfl) (pv 1))))
      (pss_cons (ps_fld (pv 0) (pe_op op_mod (pv 2) pe_int) rfl)
      (pss_cons (ps_fldaug (pv 0) (pe_op op_fdiv (pv 2) pe_int) in_add)
      (pss_one (ps_ret (pe_op op_fdiv (pv 2) pe_int))))), ?_⟩
    have e0 : (c.rest : Int) + (c.speed : Int) * (up : Int) = ((c.rest + up * c.speed : Nat) : Int) := by
      rw [Int.natCast_add, Int.natCast_mul, Int.mul_comm (c.speed : Int)]
    refine ⟨_, rfl, p, CC, dx, _, _, rfl, hp, T.clC, T.c4, cF_rest c, _, rfl, p, CC, dx, _, _, rfl, hp, T.clC, T.c2, cF_speed c, _, rfl, _, _, rfl, rfl, .inl ⟨by omega, by omega⟩, _, _, rfl, rfl, ?_⟩
    dsimp only
    rw [e0]
    refine ⟨_, rfl, _, _, rfl, rfl, (by show (0 : Int) < 100; decide), _, rfl, p, CC, dx, _, rfl, hp, T.clC, T.c4, (by show 4 < 1000; decide), ?_⟩
    have e1 : ((c.rest + up * c.speed : Nat) : Int) % 100 = (((c.rest + up * c.speed) % 100 : Nat) : Int) := by omega
    have e2 : ((c.rest + up * c.speed : Nat) : Int) / 100 = (((c.rest + up * c.speed) / 100 : Nat) : Int) := by omega
    dsimp only
    rw [e1, cF_putR]
    refine ⟨_, rfl, p, CC, dx, _, _, rfl, upd_same, T.clC, T.c3, cF_ticks _, _, rfl, _, _, rfl, rfl, ⟨by decide, by decide⟩, _, _, rfl, rfl, dx, _, upd_same, (by show 4 < 1000; decide), ?_⟩
    dsimp only
    rw [e2, upd_upd]
    have e3 : (({ c with rest := (c.rest + up * c.speed) % 100 } : GClock).ticks : Int) + (((c.rest + up * c.speed) / 100 : Nat) : Int) = ((c.ticks + (c.rest + up * c.speed) / 100 : Nat) : Int) := by
      show (c.ticks : Int) + _ = _
      omega
    rw [e3, cF_putT]
    refine ⟨_, rfl, _, _, rfl, rfl, ⟨by decide, by decide⟩, ?_⟩
    dsimp only
    rw [e2]
    exact k
theorem scTw : FnScope ["self", "clock"] ["self"] (defScope sTwin) := ⟨rfl, rfl, rfl, by decide +kernel, rfl, by decide +kernel, by decide +kernel⟩
theorem ok_twin {f fI : Addr} {fd fdI : FuncData} (F : Fun K "twin" "Clock.twin" sTwin f fd) (T : Txt K mg CG CC CT) (M : Mk K CC fI) (GI : FnOk P w K mg base CX0 1 fI fdI ["self", "hangs_on", "speed"] (spCInit CC)) (bI : Binds K fdI ["self", "hangs_on", "speed"] []) :
    FnOk P w K mg base CX0 3 f fd ["self"] (spTwin CC) := by
  refine F.ok scTw (fun vs H Q E h => ?_) (fun cdv A outer s H vs Q E hr h => ?_)
  · obtain ⟨p, dx, c, rfl, _⟩ := h
    rfl
  · obtain ⟨p, dx, c, rfl, hp, k⟩ := h
    refine ⟨_, pss_cons (ps_set (i := 1) scTw.nd rfl (Or.inl rfl) (pe_make M GI hr rfl T.mgC bI .nil pass0 (pa_cons (pe_fld (pv 0) rfl) (pa_cons (pe_fld (pv 0) rfl) pa_nil))))
      (pss_cons (ps_fld (pv 1) (pe_fld (pv 0) rfl) rfl) (pss_cons (ps_fld (pv 1) (pe_fld (pv 0) rfl) rfl) (pss_one (ps_ret (pv 1))))), ?_⟩
    refine ⟨_, rfl, p, CC, dx, _, _, rfl, hp, T.clC, T.c1, cF_on c, _, rfl, p, CC, dx, _, _, rfl, hp, T.clC, T.c2, cF_speed c, ?_⟩
    intro q d nq nd ne
    refine ⟨q, d, c.on, c.speed, rfl, upd_same, fun num => ⟨rfl, ?_⟩⟩
    rw [upd_upd]
    have npq : p ≠ q := ne_of_none hp nq
    have npd : p ≠ d := ne_of_none hp nd
    refine ⟨_, rfl, p, CC, dx, _, _, rfl, ((upd_ne npq).trans ((upd_ne npd).trans hp)), T.clC, T.c3, cF_ticks c, _, rfl, q, CC, d, _, rfl, upd_same, T.clC, T.c3, (by show 4 < 1000; decide), ?_⟩
    rw [upd_upd, cF_putT]
    refine ⟨_, rfl, p, CC, dx, _, _, rfl, ((upd_ne npq).trans ((upd_ne npd).trans hp)), T.clC, T.c4, cF_rest c, _, rfl, q, CC, d, _, rfl, upd_same, T.clC, T.c4, (by show 4 < 1000; decide), ?_⟩
    rw [upd_upd, cF_putR]
    exact ⟨_, rfl, k q d nq nd ne⟩
end
end Tk

namespace Tk
open PySem PySem.Spec PyProof.Rows L2
section
variable {P : Program} {w : World} {K : PySem.W.Frag} {mg : Str → Option Value} {base : Heap} {CG CC CT : Addr}
theorem vN_app (a b : List Nat) : vN (a ++ b) = vN a ++ vN b := List.map_append
theorem vN_one (n : Nat) : vN [n] = [V.int (n : Int)] := rfl
theorem vN_len (l : List Nat) : (vN l).length = l.length := List.length_map _
theorem small {n : Nat} (h : n ≤ 100000) : n < sizeLine := by
  show n < 2 ^ 24
  omega
theorem scDu : FnScope ["self", "ticks", "dues"] ["self", "ticks"] (defScope sDues) := ⟨rfl, rfl, rfl, by decide +kernel, rfl, by decide +kernel, by decide +kernel⟩
theorem ok_dues {f : Addr} {fd : FuncData} (F : Fun K "take_dues" "Timer.take_dues" sDues f fd) (T : Txt K mg CG CC CT) : FnOk P w K mg base CX0 1 f fd ["self", "ticks"] (spDues CT) := by
  refine F.ok scDu (fun vs H Q E h => ?_) (fun cdv A outer s H vs Q E hr h => ?_)
  · obtain ⟨p, dx, t, now, rfl, _⟩ := h
    rfl
  · obtain ⟨p, dx, t, now, rfl, hp, hn, k⟩ := h
    refine ⟨_, pss_cons (ps_if (pt_cmpR op_gt (pe_fld (pv 0) rfl) (pv 1) (nomark _)) (pss_one (ps_ret (pe_lst pa_nil))) pss_nil)
      (pss_cons (ps_if (pt_cmpR op_eq (pe_fld (pv 0) rfl) pe_int (nomark _)) (pss_one (ps_ret (pe_lst (pa_cons (pe_fld (pv 0) rfl) pa_nil)))) pss_nil)
      (pss_cons (ps_set (i := 2) scDu.nd rfl (Or.inl rfl) (pe_lst pa_nil))
      (pss_cons (ps_while PassesOwn.never (pt_cmpR op_le (pe_fld (pv 0) rfl) (pv 1) (nomark _))
        (pss_cons (ps_expr (pe_bm PySem.F.plainAttrs_list PySem.F.slot_list_append PySem.F.type_list_append mt_append (pv 2) (pa_cons (pe_fld (pv 0) rfl) pa_nil)))
        (pss_one (ps_fldaug (pv 0) (pe_fld (pv 0) rfl) in_add))))
      (pss_one (ps_ret (pv 2)))))), ?_⟩
    refine ⟨_, rfl, p, CT, dx, _, _, rfl, hp, T.clT, T.t3, tF_due t, _, rfl, _, _, rfl, rfl, _, rfl, ?_⟩
    by_cases c1 : now < t.due
    · refine if_true_of (decide_eq_true (by omega)) ⟨Nat.zero_le _, fun q hq => ?_⟩
      have e := rings_not 100 now t c1
      have npq : p ≠ q := ne_of_none hp hq
      refine k q _ hq ?_ ?_ (fun b h1 h2 => upd_ne h2)
      · rw [e, upd_same]
        rfl
      · rw [upd_ne npq]
        unfold after
        rw [e]
        exact hp
    · refine if_false_of (decide_eq_false (by omega)) ?_
      refine ⟨_, rfl, p, CT, dx, _, _, rfl, hp, T.clT, T.t4, tF_again t, rfl, _, rfl, ?_⟩
      by_cases c2 : t.again = 0
      · refine if_true_of (decide_eq_true (by rw [c2]; rfl)) ?_
        refine ⟨_, rfl, p, CT, dx, _, _, rfl, hp, T.clT, T.t3, tF_due t, (by show 1 ≤ sizeLine; decide), fun q hq => ?_⟩
        have e := rings_once 99 now t c1 c2
        have npq : p ≠ q := ne_of_none hp hq
        refine k q _ hq ?_ ?_ (fun b h1 h2 => upd_ne h2)
        · rw [e, upd_same]
          show some (HO.lst [V.int (t.due : Int)]) = some (HO.lst [V.int ((t.due + 0 * t.again : Nat) : Int)])
          rw [Nat.zero_mul, Nat.add_zero]
        · rw [upd_ne npq]
          unfold after
          rw [e]
          exact hp
      · refine if_false_of (decide_eq_false fun z => c2 (by injection z with z; omega)) ?_
        refine ⟨Nat.zero_le _, fun q hq => ?_⟩
        have npq : p ≠ q := ne_of_none hp hq
        refine ⟨fun m σ H' => ∃ j, m = now + 1 - (later t j).due ∧ σ = [some (.ref p), some (.int (now : Int)), some (.ref q)] ∧ H' p = some (.ins CT dx (tF (later t j))) ∧ H' q = some (.lst (vN (duesOf t j))) ∧ Rg now t j ∧ (∀ b, b ≠ p → b ≠ q → H' b = H b) ∧ j ≤ 64,
          ⟨_, 0, rfl, rfl, by rw [upd_ne npq, later_zero]; exact hp, upd_same, rg_start hn, fun b h1 h2 => upd_ne h2, by omega⟩, ?_⟩
        rintro m σ H' ⟨j, rfl, rfl, h1, h2, h3, h4, h5⟩
        refine ⟨_, rfl, p, CT, dx, _, _, rfl, h1, T.clT, T.t3, tF_due _, _, rfl, _, _, rfl, rfl, _, rfl, ?_⟩
        by_cases c3 : now < (later t j).due
        · refine if_false_of (decide_eq_false (by omega)) ?_
          refine ⟨_, rfl, ?_⟩
          have e := rg_end c3 h3
          refine k q H' hq ?_ ?_ h4
          · rw [e]
            exact h2
          · unfold after
            rw [e]
            exact h1
        · have hj : j < 64 := by
            have : (later t j).due = t.due + j * t.again := rfl
            have : j * 1 ≤ j * t.again := Nat.mul_le_mul_left _ (by omega)
            omega
          refine if_true_of (decide_eq_true (by omega)) ⟨_, fun σ' H' h => h, ?_⟩
          have ldue : (later t (j + 1)).due = (later t j).due + t.again := by simp [later, Nat.add_mul, Nat.add_assoc]
          have hlen : (vN (duesOf t j)).length < sizeLine := small (by rw [vN_len]; unfold duesOf; rw [List.length_map, List.length_range]; omega)
          refine ⟨_, rfl, .inl ⟨rfl, _, SqL.of h2⟩, _, rfl, p, CT, dx, _, _, rfl, h1, T.clT, T.t3, tF_due _, q, _, _, rfl, rfl, h2, hlen, ?_⟩
          refine ⟨_, rfl, p, CT, dx, _, _, rfl, (by rw [upd_ne npq]; exact h1), T.clT, T.t3, tF_due _, _, rfl, p, CT, dx, _, _, rfl, (by rw [upd_ne npq]; exact h1), T.clT, T.t4, tF_again _, _, _, rfl, rfl, dx, _, (by rw [upd_ne npq]; exact h1), (by show 4 < 1000; decide), ?_⟩
          have e1 : ((later t j).due : Int) + ((later t j).again : Int) = (((later t j).due + t.again : Nat) : Int) := by
            show ((later t j).due : Int) + (t.again : Int) = _
            omega
          dsimp only
          rw [e1, tF_putD, ← ldue]
          refine ⟨_, by omega, j + 1, rfl, rfl, ?_, ?_, rg_turn c2 c3 h3, fun b k1 k2 => by rw [upd_ne k1, upd_ne k2]; exact h4 b k1 k2, hj⟩
          · exact upd_same
          · rw [upd_ne npq.symm, upd_same, dues_more, vN_app]
            rfl
end
end Tk

namespace Tk
open PySem PySem.Spec PyProof.Rows L2
abbrev sGInit : Stmt := inClass (top pGame) 0
abbrev sRestart : Stmt := inClass (top pGame) 1
abbrev sHas : Stmt := inClass (top pGame) 2
abbrev sFind : Stmt := inClass (top pGame) 3
abbrev sParts : Stmt := inClass (top pGame) 4
abbrev sAhead : Stmt := inClass (top pGame) 5
abbrev sRings : Stmt := inClass (top pGame) 6
abbrev sTick : Stmt := inClass (top pGame) 7
section gfields
variable (w : GWorld) (lc lt : Addr)
theorem gF_step : (gF w lc lt).lookup ("step" : Str) = some (.int (w.step : Int)) := by
  unfold gF; repeat (first | exact lk_here | refine (lk_past (by decide +kernel)).trans ?_)
theorem gF_most : (gF w lc lt).lookup ("most" : Str) = some (.int (w.most : Int)) := by
  unfold gF; repeat (first | exact lk_here | refine (lk_past (by decide +kernel)).trans ?_)
theorem gF_rest : (gF w lc lt).lookup ("left_over" : Str) = some (.int (w.rest : Int)) := by
  unfold gF; repeat (first | exact lk_here | refine (lk_past (by decide +kernel)).trans ?_)
theorem gF_ticks : (gF w lc lt).lookup ("ticks" : Str) = some (.int (w.ticks : Int)) := by
  unfold gF; repeat (first | exact lk_here | refine (lk_past (by decide +kernel)).trans ?_)
theorem gF_lost : (gF w lc lt).lookup ("lost" : Str) = some (.int (w.lost : Int)) := by
  unfold gF; repeat (first | exact lk_here | refine (lk_past (by decide +kernel)).trans ?_)
theorem gF_clocks : (gF w lc lt).lookup ("clocks" : Str) = some (.ref lc) := by
  unfold gF; repeat (first | exact lk_here | refine (lk_past (by decide +kernel)).trans ?_)
theorem gF_timers : (gF w lc lt).lookup ("timers" : Str) = some (.ref lt) := by
  unfold gF; repeat (first | exact lk_here | refine (lk_past (by decide +kernel)).trans ?_)
theorem gF_given : (gF w lc lt).lookup ("timers_given" : Str) = some (.int (w.given : Int)) := by
  unfold gF; repeat (first | exact lk_here | refine (lk_past (by decide +kernel)).trans ?_)
theorem gF_no {m : Str} (h : (["step", "most", "left_over", "ticks", "lost", "clocks", "timers", "timers_given"] : List Str).all (fun f => !(m == f)) = true) : (gF w lc lt).lookup m = none := by
  have k : ∀ f ∈ (["step", "most", "left_over", "ticks", "lost", "clocks", "timers", "timers_given"] : List Str), (m == f) = false := fun f hf => by
    have := List.all_eq_true.mp h f hf
    simpa using this
  unfold gF
  rw [lk_past (k _ (by simp)), lk_past (k _ (by simp)), lk_past (k _ (by simp)), lk_past (k _ (by simp)), lk_past (k _ (by simp)), lk_past (k _ (by simp)), lk_past (k _ (by simp)), lk_past (k _ (by simp))]
  rfl
theorem gF_putRest (n : Nat) : putF "left_over" (.int (n : Int)) (gF w lc lt) = gF { w with rest := n } lc lt := by
  unfold gF; repeat (first | rw [put_here] | rw [put_past (by decide +kernel)])
theorem gF_putTicks (n : Nat) : putF "ticks" (.int (n : Int)) (gF w lc lt) = gF { w with ticks := n } lc lt := by
  unfold gF; repeat (first | rw [put_here] | rw [put_past (by decide +kernel)])
theorem gF_putLost (n : Nat) : putF "lost" (.int (n : Int)) (gF w lc lt) = gF { w with lost := n } lc lt := by
  unfold gF; repeat (first | rw [put_here] | rw [put_past (by decide +kernel)])
theorem gF_putGiven (n : Nat) : putF "timers_given" (.int (n : Int)) (gF w lc lt) = gF { w with given := n } lc lt := by
  unfold gF; repeat (first | rw [put_here] | rw [put_past (by decide +kernel)])
theorem gF_putTimers (l : Addr) : putF "timers" (.ref l) (gF w lc lt) = gF w lc l := by
  unfold gF; repeat (first | rw [put_here] | rw [put_past (by decide +kernel)])
theorem g_new (s m : Nat) {fs : List (Str × V)} (h : fs = [] ∨ ∃ (w : GWorld) (a b : Addr), fs = gF w a b) :
    putF "timers_given" (.int 0) (putF "timers" (.ref lt) (putF "clocks" (.ref lc) (putF "lost" (.int 0) (putF "ticks" (.int 0) (putF "left_over" (.int 0) (putF "most" (.int (m : Int)) (putF "step" (.int (s : Int)) fs))))))) = gF { Ge03.init with step := s, most := m } lc lt := by
  rcases h with rfl | ⟨w, a, b, rfl⟩
  · repeat (first | rw [put_nil] | rw [put_past (by decide +kernel)])
    rfl
  · unfold gF
    repeat (first | rw [put_here] | rw [put_past (by decide +kernel)])
    rfl
end gfields
theorem fresh {H : Hp} {a b : Addr} {o : HO} (h : upd H a o b = none) : b ≠ a ∧ H b = none := by
  have n : b ≠ a := fun z => by rw [z, upd_same] at h; cases h
  rw [upd_ne n] at h
  exact ⟨n, h⟩
theorem pgi {X : Cx} {x : Str} {i : Int} {pos : Pos} (hm : ∃ t, X.mg x = some (.int i t)) (hg : Gl X x := by rfl) (hd : (x == ("__debug__" : Str)) = false := by decide +kernel) : PE X (.Name x pos) (tC (.int i)) := by
  obtain ⟨t, hm⟩ := hm
  exact pe_glob hg hm ⟨t, rfl⟩ hd
/-! ### the promises -/
def spRestart (CG CC CT : Addr) : Sp := fun vs H Q _ => ∃ (H0 : Hp) (g dx : Addr) (fs : List (Str × V)) (s m : Nat), vs = [.ref g, .int (s : Int), .int (m : Int)] ∧ Same H0 H ∧ H0 g = none ∧ H g = some (.ins CG dx fs) ∧ (fs = [] ∨ ∃ (w : GWorld) (a b : Addr), fs = gF w a b) ∧
  ∀ H', GameAt CG CC CT H0 H' g { Ge03.init with step := s, most := m } → Q .non H'
def spGInit (CG CC CT : Addr) : Sp := fun vs H Q _ => ∃ (H0 : Hp) (g dx : Addr), vs = [.ref g] ∧ Same H0 H ∧ H0 g = none ∧ H g = some (.ins CG dx []) ∧ ∀ H', GameAt CG CC CT H0 H' g Ge03.init → Q .non H'
def spHas (CG CC CT : Addr) : Sp := fun vs H Q _ => ∃ (H0 : Hp) (g : Addr) (w : GWorld) (n : Nat), vs = [.ref g, .int (n : Int)] ∧ GameAt CG CC CT H0 H g w ∧ Q (.bl (decide (n < w.clocks.length))) H
def spParts (CG CC CT : Addr) : Sp := fun vs H Q _ => ∃ (H0 : Hp) (g : Addr) (w : GWorld) (n : Nat), vs = [.ref g, .int (n : Int)] ∧ GameAt CG CC CT H0 H g w ∧ 1 ≤ w.step ∧ w.step ≤ 1000 ∧
  ∀ H', GameAt CG CC CT H0 H' g { w with rest := (w.rest + n) % w.step, lost := w.lost + ((w.rest + n) / w.step - Nat.min ((w.rest + n) / w.step) w.most) } → Q (.int (Nat.min ((w.rest + n) / w.step) w.most : Nat)) H'
section
variable {P : Program} {w : World} {K : PySem.W.Frag} {mg : Str → Option Value} {base : Heap} {CG CC CT : Addr}
theorem scRe : FnScope ["self", "step", "most"] ["self", "step", "most"] (defScope sRestart) := ⟨rfl, rfl, rfl, by decide +kernel, rfl, by decide +kernel, by decide +kernel⟩
theorem ok_restart {f fI : Addr} {fd fdI : FuncData} (F : Fun K "restart" "Game.restart" sRestart f fd) (T : Txt K mg CG CC CT) (M : Mk K CC fI) (FI : Fun K "__init__" "Clock.__init__" sCInit fI fdI) (bI : Binds K fdI ["self", "hangs_on", "speed"] []) :
    FnOk P w K mg base CX0 3 f fd ["self", "step", "most"] (spRestart CG CC CT) := by
  have GI : FnOk P w K mg base CX0 1 fI fdI ["self", "hangs_on", "speed"] (spCInit CC) := ok_cinit FI T
  refine F.ok scRe (fun vs H Q E h => ?_) (fun cdv A outer s H vs Q E hr h => ?_)
  · obtain ⟨H0, g, dx, fs, s, m, rfl, _⟩ := h
    rfl
  · obtain ⟨H0, g, dx, fs, s, m, rfl, s0, g0, hg, hfs, k⟩ := h
    have hl : fs.length ≤ 8 := by
      rcases hfs with rfl | ⟨w, a, b, rfl⟩
      · exact Nat.zero_le _
      · exact Nat.le_refl 8
    refine ⟨_, pss_cons (ps_fld (pv 0) (pv 1) rfl) (pss_cons (ps_fld (pv 0) (pv 2) rfl) (pss_cons (ps_fld (pv 0) pe_int rfl) (pss_cons (ps_fld (pv 0) pe_int rfl) (pss_cons (ps_fld (pv 0) pe_int rfl)
      (pss_cons (ps_fld (pv 0) (pe_lst (pa_cons (pe_make M GI hr rfl T.mgC bI .nil pass0 (pa_cons pe_non (pa_cons (pgi T.fspeed) pa_nil))) pa_nil)) rfl)
      (pss_cons (ps_fld (pv 0) (pe_lst pa_nil) rfl) (pss_one (ps_fld (pv 0) pe_int rfl)))))))), ?_⟩
    have l1 := length_putF "step" (.int (s : Int)) fs
    refine ⟨_, rfl, _, rfl, g, CG, dx, fs, rfl, hg, T.clG, T.g1, (by omega), ?_⟩
    generalize e1 : putF "step" (.int (s : Int)) fs = f1 at *
    have l2 := length_putF "most" (.int (m : Int)) f1
    refine ⟨_, rfl, _, rfl, g, CG, dx, _, rfl, upd_same, T.clG, T.g2, (by omega), ?_⟩
    rw [upd_upd]
    generalize e2 : putF "most" (.int (m : Int)) f1 = f2 at *
    have l3 := length_putF "left_over" (.int 0) f2
    refine ⟨_, rfl, g, CG, dx, _, rfl, upd_same, T.clG, T.g3, (by omega), ?_⟩
    rw [upd_upd]
    generalize e3 : putF "left_over" (.int 0) f2 = f3 at *
    have l4 := length_putF "ticks" (.int 0) f3
    refine ⟨_, rfl, g, CG, dx, _, rfl, upd_same, T.clG, T.g4, (by omega), ?_⟩
    rw [upd_upd]
    generalize e4 : putF "ticks" (.int 0) f3 = f4 at *
    have l5 := length_putF "lost" (.int 0) f4
    refine ⟨_, rfl, g, CG, dx, _, rfl, upd_same, T.clG, T.g5, (by omega), ?_⟩
    rw [upd_upd]
    generalize e5 : putF "lost" (.int 0) f4 = f5 at *
    intro x dc nx nd ne
    refine ⟨x, dc, 0, 100, rfl, upd_same, fun num => ⟨rfl, (by show 1 ≤ sizeLine; decide), fun lc hlc => ?_⟩⟩
    rw [upd_upd] at hlc
    obtain ⟨nlx, hlc⟩ := fresh hlc
    obtain ⟨nld, hlc⟩ := fresh hlc
    obtain ⟨nlg, hlc⟩ := fresh hlc
    obtain ⟨nxg, nx⟩ := fresh nx
    obtain ⟨ndg, nd⟩ := fresh nd
    rw [upd_upd]
    refine ⟨_, rfl, g, CG, dx, f5, rfl, (by rw [upd_ne nlg.symm, upd_ne nxg.symm, upd_ne ndg.symm, upd_same]), T.clG, T.g6, (by omega), ?_⟩
    have l6 := length_putF "clocks" (.ref lc) f5
    generalize e6 : putF "clocks" (.ref lc) f5 = f6 at *
    refine ⟨Nat.zero_le _, fun lt hlt => ?_⟩
    obtain ⟨ntg, hlt⟩ := fresh hlt
    obtain ⟨ntl, hlt⟩ := fresh hlt
    obtain ⟨ntx, hlt⟩ := fresh hlt
    obtain ⟨ntd, hlt⟩ := fresh hlt
    obtain ⟨_, hlt⟩ := fresh hlt
    refine ⟨_, rfl, g, CG, dx, f6, rfl, (by rw [upd_ne ntg.symm, upd_same]), T.clG, T.g7, (by omega), ?_⟩
    have l7 := length_putF "timers" (.ref lt) f6
    generalize e7 : putF "timers" (.ref lt) f6 = f7 at *
    refine ⟨_, rfl, g, CG, dx, f7, rfl, upd_same, T.clG, T.g8, (by omega), ?_⟩
    rw [upd_upd]
    have eN : putF "timers_given" (.int 0) f7 = gF { Ge03.init with step := s, most := m } lc lt := by
      rw [← e7, ← e6, ← e5, ← e4, ← e3, ← e2, ← e1]
      exact g_new lc lt s m hfs
    rw [eN]
    refine k _ ⟨dx, lc, lt, [x], [], ⟨fun b o e => ?_, g0, upd_same, s0.free hlc, ?_, s0.free hlt, ?_, ntl.symm, ⟨rfl, by simp, ?_, ?_⟩, ⟨rfl, List.nodup_nil, fun a ha => (List.not_mem_nil ha).elim, fun i a x hi _ => by simp at hi⟩⟩⟩
    · have nb : ∀ {q : Addr}, H q = none → b ≠ q := fun {q} hq => ne_of_none (s0 b o e) hq
      have nbg : b ≠ g := fun z => by rw [z, g0] at e; cases e
      rw [upd_ne nbg, upd_ne (nb hlt), upd_ne nbg, upd_ne (nb hlc), upd_ne (nb nx), upd_ne (nb nd), upd_ne nbg]
      exact s0 b o e
    · rw [upd_ne nlg, upd_ne ntl.symm, upd_ne nlg, upd_same]
      rfl
    · rw [upd_ne ntg, upd_same]
      rfl
    · intro a ha
      rw [List.mem_singleton.mp ha]
      exact s0.free nx
    · intro i a c hi hc
      match i, hi, hc with
      | 0, hi, hc =>
        cases hi
        cases hc
        refine ⟨dc, ?_⟩
        rw [upd_ne nxg, upd_ne ntx.symm, upd_ne nxg, upd_ne nlx.symm, upd_same]
        rfl
theorem scGI : FnScope ["self"] ["self"] (defScope sGInit) := ⟨rfl, rfl, rfl, by decide +kernel, rfl, by decide +kernel, by decide +kernel⟩
theorem ok_ginit {f fR : Addr} {fd fdR : FuncData} (F : Fun K "__init__" "Game.__init__" sGInit f fd) (T : Txt K mg CG CC CT) (GR : FnOk P w K mg base CX0 3 fR fdR ["self", "step", "most"] (spRestart CG CC CT)) (bR : Binds K fdR ["self", "step", "most"] []) (mR : Meth K CG "restart" fR) :
    FnOk P w K mg base CX0 4 f fd ["self"] (spGInit CG CC CT) := by
  refine F.ok scGI (fun vs H Q E h => ?_) (fun cdv A outer s H vs Q E hr h => ?_)
  · obtain ⟨H0, g, dx, rfl, _⟩ := h
    rfl
  · obtain ⟨H0, g, dx, rfl, s0, g0, hg, k⟩ := h
    refine ⟨_, pss_one (ps_expr (pe_meth (pv 0) T.clG mR GR hr bR .nil pass0 (pa_cons (pgi T.fstep) (pa_cons (pgi T.fmost) pa_nil)))), ?_⟩
    exact ⟨_, rfl, g, dx, [], rfl, hg, rfl, H0, g, dx, [], 16, 5, rfl, s0, g0, hg, .inl rfl, fun H' R => k H' R⟩
theorem scHa : FnScope ["self", "number"] ["self", "number"] (defScope sHas) := ⟨rfl, rfl, rfl, by decide +kernel, rfl, by decide +kernel, by decide +kernel⟩
theorem ok_has {f : Addr} {fd : FuncData} (F : Fun K "has_clock" "Game.has_clock" sHas f fd) (T : Txt K mg CG CC CT) : FnOk P w K mg base CX0 1 f fd ["self", "number"] (spHas CG CC CT) := by
  refine F.ok scHa (fun vs H Q E h => ?_) (fun cdv A outer s H vs Q E hr h => ?_)
  · obtain ⟨H0, g, w, n, rfl, _⟩ := h
    rfl
  · obtain ⟨H0, g, w, n, rfl, ⟨dx, lc, lt, cas, tas, X⟩, k⟩ := h
    refine ⟨_, pss_one (ps_ret (pe_cmpR op_lt (pv 1) (pe_callB call_len_seq (by rfl) T.len PySem.boot_len (pa_cons (pe_fld (pv 0) rfl) pa_nil)) (nomark _))), ?_⟩
    refine ⟨_, rfl, _, rfl, g, CG, dx, _, _, rfl, X.hg, T.clG, T.g6, gF_clocks _ _ _, lc, _, rfl, .inl (SqL.of X.hc), _, _, rfl, rfl, ?_⟩
    have e : decide ((n : Int) < ((cas.map V.ref).length : Int)) = decide (n < w.clocks.length) := by
      rw [List.length_map, X.cl.len]
      by_cases c : n < w.clocks.length
      · rw [decide_eq_true c, decide_eq_true (by omega)]
      · rw [decide_eq_false c, decide_eq_false (by omega)]
    dsimp only
    rw [e]
    exact k
theorem scPa : FnScope ["self", "parts", "together", "wanted", "ticks"] ["self", "parts"] (defScope sParts) := ⟨rfl, rfl, rfl, by decide +kernel, rfl, by decide +kernel, by decide +kernel⟩
theorem ok_parts {f : Addr} {fd : FuncData} (F : Fun K "take_parts" "Game.take_parts" sParts f fd) (T : Txt K mg CG CC CT) : FnOk P w K mg base CX0 1 f fd ["self", "parts"] (spParts CG CC CT) := by
  refine F.ok scPa (fun vs H Q E h => ?_) (fun cdv A outer s H vs Q E hr h => ?_)
  · obtain ⟨H0, g, w, n, rfl, _⟩ := h
    rfl
  · obtain ⟨H0, g, w, n, rfl, ⟨dx, lc, lt, cas, tas, X⟩, h1, h2, k⟩ := h
    refine ⟨_, pss_cons (ps_set (i := 2) scPa.nd rfl (Or.inl rfl) (pe_op op_add (pe_fld (pv 0) rfl) (pv 1)))
      (pss_cons (ps_fld (pv 0) (pe_op op_mod (pv 2) (pe_fld (pv 0) rfl)) rfl)
      (pss_cons (ps_set (i := 3) scPa.nd rfl (Or.inl rfl) (pe_op op_fdiv (pv 2) (pe_fld (pv 0) rfl)))
      (pss_cons (ps_set (i := 4) scPa.nd rfl (Or.inl rfl) (pe_callB (call_min2 rfl) (by rfl) T.min (by decide +kernel) (pa_cons (pv 3) (pa_cons (pe_fld (pv 0) rfl) pa_nil))))
      (pss_cons (ps_fldaug (pv 0) (pe_op op_sub (pv 3) (pv 4)) in_add)
      (pss_one (ps_ret (pv 4))))))), ?_⟩
    have e0 : (w.rest : Int) + (n : Int) = ((w.rest + n : Nat) : Int) := by omega
    refine ⟨_, rfl, g, CG, dx, _, _, rfl, X.hg, T.clG, T.g3, gF_rest _ _ _, _, rfl, _, _, rfl, rfl, ?_⟩
    dsimp only
    rw [e0]
    have e1 : ((w.rest + n : Nat) : Int) % (w.step : Int) = (((w.rest + n) % w.step : Nat) : Int) := (Int.natCast_emod _ _).symm
    have e2 : ((w.rest + n : Nat) : Int) / (w.step : Int) = (((w.rest + n) / w.step : Nat) : Int) := (Int.natCast_ediv _ _).symm
    refine ⟨_, rfl, _, rfl, g, CG, dx, _, _, rfl, X.hg, T.clG, T.g1, gF_step _ _ _, _, _, rfl, rfl, (by omega), _, rfl, g, CG, dx, _, rfl, X.hg, T.clG, T.g3, (by show 8 < 1000; decide), ?_⟩
    dsimp only
    rw [e1, gF_putRest]
    refine ⟨_, rfl, _, rfl, g, CG, dx, _, _, rfl, upd_same, T.clG, T.g1, gF_step _ _ _, _, _, rfl, rfl, ⟨(by show (0 : Int) < (w.step : Int); omega), (by show (w.step : Int) < 1073741824; omega)⟩, ?_⟩
    show gName 3 (V.int (((w.rest + n : Nat) : Int) / (w.step : Int))) _ _ _
    rw [e2]
    generalize hq : (w.rest + n) / w.step = q at *
    refine ⟨_, rfl, _, rfl, g, CG, dx, _, _, rfl, upd_same, T.clG, T.g2, gF_most _ _ _, _, _, rfl, ?_⟩
    have e3 : (if (w.most : Int) < (q : Int) then (w.most : Int) else (q : Int)) = ((Nat.min q w.most : Nat) : Int) := by
      by_cases c : w.most < q
      · rw [if_pos (by omega)]
        have : Nat.min q w.most = w.most := Nat.min_eq_right (by omega)
        rw [this]
      · rw [if_neg (by omega)]
        have : Nat.min q w.most = q := Nat.min_eq_left (by omega)
        rw [this]
    show gName 4 (V.int (if (w.most : Int) < (q : Int) then (w.most : Int) else (q : Int))) _ _ _
    rw [e3]
    have e4 : Nat.min q w.most ≤ q := Nat.min_le_left _ _
    generalize hm : Nat.min q w.most = m at *
    refine ⟨_, rfl, g, CG, dx, _, _, rfl, upd_same, T.clG, T.g5, gF_lost _ _ _, _, rfl, _, rfl, _, _, rfl, rfl, _, _, rfl, rfl, dx, _, upd_same, (by show 8 < 1000; decide), ?_⟩
    have e5 : (w.lost : Int) + ((q : Int) - (m : Int)) = ((w.lost + (q - m) : Nat) : Int) := by omega
    dsimp only
    rw [e5, gF_putLost, upd_upd]
    refine ⟨_, rfl, ?_⟩
    exact k _ ⟨dx, lc, lt, cas, tas, X.setG rfl rfl⟩
end
end Tk

namespace Tk
open PySem PySem.Spec PyProof.Rows L2
section
variable {P : Program} {w : World} {K : PySem.W.Frag} {mg : Str → Option Value} {base : Heap} {CG CC CT : Addr}
/-- the clocks while they go on: the first i have -/
def midC (l : List GClock) (i : Nat) : List GClock := (Ge03.clocksTick (l.take i)).1 ++ l.drop i
def midM (l : List GClock) (i : Nat) : List Nat := (Ge03.clocksTick (l.take i)).2.map (·.2)
theorem midC_zero (l : List GClock) : midC l 0 = l := by
  show ([] : List GClock) ++ l.drop 0 = l
  simp
theorem midC_all (l : List GClock) : midC l l.length = (Ge03.clocksTick l).1 := by
  unfold midC
  rw [List.take_length, List.drop_length, List.append_nil]
theorem midC_at {l : List GClock} (h : CkOk l) {i : Nat} {c : GClock} (hi : l[i]? = some c) : (midC l i)[i]? = some c := by
  have hlt := (List.getElem?_eq_some_iff.mp hi).1
  have g := cg_take h i (by omega)
  unfold midC
  rw [List.getElem?_append_right (by rw [g.l1]; exact Nat.le_refl _), g.l1, Nat.sub_self, List.getElem?_drop, Nat.add_zero]
  exact hi
theorem midC_next {l : List GClock} (h : CkOk l) {i : Nat} {c : GClock} (hi : l[i]? = some c) : (midC l i).set i (goOn c (upOf (Ge03.clocksTick (l.take i)) c)) = midC l (i + 1) := by
  have hlt := (List.getElem?_eq_some_iff.mp hi).1
  have g := cg_take h i (by omega)
  unfold midC
  rw [ct_more hi, g.step]
  have e : l.drop i = c :: l.drop (i + 1) := by
    rw [List.drop_eq_getElem_cons hlt]
    congr 1
    exact (List.getElem?_eq_some_iff.mp hi).2
  rw [e, List.set_append_right _ _ (by rw [g.l1]; exact Nat.le_refl _), g.l1, Nat.sub_self]
  show _ ++ (_ :: l.drop (i + 1)) = (_ ++ [_]) ++ _
  rw [List.append_assoc]
  rfl
theorem midM_next {l : List GClock} (h : CkOk l) {i : Nat} {c : GClock} (hi : l[i]? = some c) : midM l (i + 1) = midM l i ++ [mv c (upOf (Ge03.clocksTick (l.take i)) c)] := by
  have hlt := (List.getElem?_eq_some_iff.mp hi).1
  have g := cg_take h i (by omega)
  unfold midM
  rw [ct_more hi, g.step, List.map_append]
  rfl
theorem midM_len {l : List GClock} (h : CkOk l) {i : Nat} (hi : i ≤ l.length) : (midM l i).length = i := by
  unfold midM
  rw [List.length_map, (cg_take h i hi).l2]
theorem getElem?_vN {l : List Nat} {k n : Nat} (h : l[k]? = some n) : (vN l)[k]? = some (V.int (n : Int)) := by
  unfold vN
  rw [List.getElem?_map, h]
  rfl
theorem ref_at {as : List Addr} {i : Nat} {y : V} (h : (as.map V.ref)[i]? = some y) : ∃ a, as[i]? = some a ∧ y = V.ref a := by
  rw [List.getElem?_map] at h
  cases e : as[i]? with
  | none => rw [e] at h; cases h
  | some a => rw [e] at h; exact ⟨a, rfl, (Option.some.inj h).symm⟩
/-- a list of clocks goes on by one tick of the game; nothing but the clocks changes -/
def spMove (CC : Addr) : Sp := fun vs H Q _ => ∃ (lc : Addr) (cas : List Addr) (l : List GClock), vs = [.ref lc] ∧ H lc = some (.lst (cas.map V.ref)) ∧ Objs CC cF (fun _ => none) H cas l ∧ CkOk l ∧ l.length ≤ 6 ∧
  ∀ H', Objs CC cF (fun _ => none) H' cas (Ge03.clocksTick l).1 → (∀ b o, b ∉ cas → H b = some o → H' b = some o) → Q .non H'
theorem scMo : FnScope ["clocks", "moved", "clock", "given"] ["clocks"] (defScope sMove) := ⟨rfl, rfl, rfl, by decide +kernel, rfl, by decide +kernel, by decide +kernel⟩
theorem ok_move {f fO : Addr} {fd fdO : FuncData} (F : Fun K "move_clocks" "move_clocks" sMove f fd) (T : Txt K mg CG CC CT) (GO : FnOk P w K mg base CX0 1 fO fdO ["self", "given"] (spGoOn CC)) (bO : Binds K fdO ["self", "given"] []) (mO : Meth K CC "go_on" fO) :
    FnOk P w K mg base CX0 2 f fd ["clocks"] (spMove CC) := by
  refine F.ok scMo (fun vs H Q E h => ?_) (fun cdv A outer s H vs Q E hr h => ?_)
  · obtain ⟨lc, cas, l, rfl, _⟩ := h
    rfl
  · obtain ⟨lc, cas, l, rfl, hlc, O, ck, h6, k⟩ := h
    refine ⟨_, pss_cons (ps_set (i := 1) scMo.nd rfl (Or.inl rfl) (pe_lst pa_nil))
      (pss_one (ps_for PassesOwn.never rfl (pi_list (pv 0)) (pg_name (i := 2) scMo.nd rfl (Or.inl rfl))
        (pss_cons (ps_set (i := 3) scMo.nd rfl (Or.inl rfl) (pe_ifExp (pt_cmp (pc_isN (pe_fld (pv 2) rfl))) pe_int (pe_ix ix_list (pv 1) (pe_fld (pv 2) rfl) (fun _ _ => rfl))))
        (pss_one (ps_expr (pe_bm PySem.F.plainAttrs_list PySem.F.slot_list_append PySem.F.type_list_append mt_append (pv 1) (pa_cons (pe_meth (pv 2) T.clC mO GO hr bO .nil pass0 (pa_cons (pv 3) pa_nil)) pa_nil))))))), ?_⟩
    refine ⟨Nat.zero_le _, fun m hm => ?_⟩
    have nlm : lc ≠ m := ne_of_none hlc hm
    have nlc : lc ∉ cas := fun z => by
      obtain ⟨x, d, e⟩ := O.mem z
      rw [hlc] at e
      cases e
    have nmc : ∀ a ∈ cas, a ≠ m := fun a ha z => by
      obtain ⟨x, d, e⟩ := O.mem ha
      rw [z, hm] at e
      cases e
    refine ⟨_, rfl, lc, rfl, ⟨_, SqL.of ((upd_ne nlm).trans hlc)⟩, for_list (K := K) (a := lc) (xs := cas.map V.ref) (fun i σ H' => ∃ v1 v2 : Option V, σ = [some (.ref lc), some (.ref m), v1, v2] ∧ i ≤ l.length ∧
      H' m = some (.lst (vN (midM l i))) ∧ Objs CC cF (fun _ => none) H' cas (midC l i) ∧ ∀ b o, b ∉ cas → H b = some o → H' b = some o)
      ⟨none, none, rfl, Nat.zero_le _, upd_same, by rw [midC_zero]; exact O.others nmc, fun b o _ e => (upd_ne (ne_of_none e hm)).trans e⟩ (fun i σ H' _ ⟨_, _, _, _, _, _, kp⟩ => SqL.of (kp lc _ nlc hlc)) ?_ ?_⟩
    · rintro i y σ H' hi ⟨v1, v2, rfl, hil, hm2, O2, kp⟩
      obtain ⟨a, ha, rfl⟩ := ref_at hi
      have hlt : i < l.length := by
        have h1 := (List.getElem?_eq_some_iff.mp ha).1
        have h2 := O.len
        omega
      obtain ⟨c, hc⟩ : ∃ c, l[i]? = some c := ⟨_, List.getElem?_eq_getElem hlt⟩
      obtain ⟨cn, co, cs, cr⟩ := ck.ok i c hc
      obtain ⟨dc, hca⟩ := O2.at_ i a c ha (midC_at ck hc)
      have hml := midM_len ck hil
      have nma : m ≠ a := ne_of hm2 hca (fun z => nomatch z)
      have ham : a ∈ cas := List.mem_of_getElem? ha
      have fin : ∀ v3 : Option V, (∃ v1 v2 : Option V, [some (V.ref lc), some (V.ref m), some (V.ref a), v3] = [some (.ref lc), some (.ref m), v1, v2] ∧ i + 1 ≤ l.length ∧
          (upd (upd H' a (.ins CC dc (cF (goOn c (upOf (Ge03.clocksTick (l.take i)) c))))) m (.lst (vN (midM l i) ++ [V.int ((mv c (upOf (Ge03.clocksTick (l.take i)) c) : Nat) : Int)]))) m = some (.lst (vN (midM l (i + 1)))) ∧
          Objs CC cF (fun _ => none) (upd (upd H' a (.ins CC dc (cF (goOn c (upOf (Ge03.clocksTick (l.take i)) c))))) m (.lst (vN (midM l i) ++ [V.int ((mv c (upOf (Ge03.clocksTick (l.take i)) c) : Nat) : Int)]))) cas (midC l (i + 1)) ∧
          ∀ b o, b ∉ cas → H b = some o → (upd (upd H' a (.ins CC dc (cF (goOn c (upOf (Ge03.clocksTick (l.take i)) c))))) m (.lst (vN (midM l i) ++ [V.int ((mv c (upOf (Ge03.clocksTick (l.take i)) c) : Nat) : Int)]))) b = some o) := fun v3 => by
        refine ⟨_, _, rfl, hlt, ?_, ?_, fun b o hb e => ?_⟩
        · rw [upd_same, midM_next ck hc, vN_app]
          rfl
        · have O3 := (O2.set (d := dc) (x' := goOn c (upOf (Ge03.clocksTick (l.take i)) c)) ha).others (p := m) (o := .lst (vN (midM l i) ++ [V.int ((mv c (upOf (Ge03.clocksTick (l.take i)) c) : Nat) : Int)])) nmc
          rw [midC_next ck hc] at O3
          exact O3
        · have nba : b ≠ a := fun z => hb (by rw [z]; exact ham)
          rw [upd_ne (ne_of_none e hm), upd_ne nba]
          exact kp b o hb e
      refine ⟨_, rfl, a, CC, dc, _, _, rfl, hca, T.clC, T.c1, cF_on c, _, rfl, ?_⟩
      cases eo : c.on with
      | zero =>
        have eu : upOf (Ge03.clocksTick (l.take i)) c = 1 := by
          unfold upOf
          rw [if_pos eo]
        refine if_true_of (decide_eq_true rfl) ?_
        refine ⟨_, rfl, .inl ⟨rfl, _, SqL.of hm2⟩, _, rfl, a, dc, _, rfl, hca, cF_go c, _, rfl, a, dc, c, 1, rfl, hca, cs, m, _, _, rfl, rfl, (by rw [upd_ne nma]; exact hm2), small (by rw [vN_len, hml]; omega), ?_⟩
        have := fin (some (V.int 1))
        rw [eu] at this
        exact this
      | succ n =>
        have eu : upOf (Ge03.clocksTick (l.take i)) c = (midM l i).getD n 0 := by
          unfold upOf
          rw [if_neg (by omega), eo]
          rfl
        have hn : n < (midM l i).length := by rw [hml]; omega
        obtain ⟨u, hu⟩ : ∃ u, (midM l i)[n]? = some u := ⟨_, List.getElem?_eq_getElem hn⟩
        have eu2 : upOf (Ge03.clocksTick (l.take i)) c = u := by
          rw [eu, List.getD_eq_getElem?_getD, hu]
          rfl
        refine if_false_of (decide_eq_false fun z => nomatch z) ?_
        refine ⟨_, rfl, _, rfl, a, CC, dc, _, _, rfl, hca, T.clC, T.c1, (cF_on c).trans (by rw [eo]; rfl), m, _, (n : Int), _, rfl, rfl, SqL.of hm2, atI_nat (getElem?_vN hu), ?_⟩
        refine ⟨_, rfl, .inl ⟨rfl, _, SqL.of hm2⟩, _, rfl, a, dc, _, rfl, hca, cF_go c, _, rfl, a, dc, c, u, rfl, hca, cs, m, _, _, rfl, rfl, (by rw [upd_ne nma]; exact hm2), small (by rw [vN_len, hml]; omega), ?_⟩
        have := fin (some (V.int (u : Int)))
        rw [eu2] at this
        exact this
    · rintro σ H' ⟨v1, v2, rfl, hil, hm2, O2, kp⟩
      rw [List.length_map, O.len, midC_all] at O2
      exact k H' O2 kp
end
section
variable {CG CC CT : Addr} {H0 H H' : Hp} {g dx lc lt : Addr} {cas tas : List Addr} {w : GWorld} {l' : List GClock}
theorem GX.clocks (h : GX CG CC CT H0 H g dx lc lt cas tas w) : Objs CC cF (fun _ => none) H cas w.clocks := ⟨h.cl.len, h.cl.nd, fun _ _ => rfl, h.cl.at_⟩
/-- the game's clocks have gone on -/
theorem GX.moved (h : GX CG CC CT H0 H g dx lc lt cas tas w) (O : Objs CC cF (fun _ => none) H' cas l') (kp : ∀ b o, b ∉ cas → H b = some o → H' b = some o) : GX CG CC CT H0 H' g dx lc lt cas tas { w with clocks := l' } :=
  ⟨fun b o e => kp b o (fun z => by rw [h.cl.free b z] at e; cases e) (h.s b o e), h.g0, kp g _ (fun z => (h.cas_ne z).1 rfl) h.hg, h.lc0, kp lc _ (fun z => (h.cas_ne z).2.1 rfl) h.hc, h.lt0, kp lt _ (fun z => (h.cas_ne z).2.2.1 rfl) h.ht, h.ne,
    ⟨O.len, O.nd, h.cl.free, O.at_⟩, ⟨h.tm.len, h.tm.nd, h.tm.free, fun i a x hi hx => by
      obtain ⟨d, e⟩ := h.tm.at_ i a x hi hx
      exact ⟨d, kp a _ (fun z => (h.cas_ne z).2.2.2 a (List.mem_of_getElem? hi) rfl) e⟩⟩⟩
/-- things of the frame have been stored into -/
theorem GX.framed (h : GX CG CC CT H0 H g dx lc lt cas tas w) {S : List Addr} (hS : ∀ b ∈ S, ∃ o, H0 b = some o) (kp : ∀ b o, b ∉ S → H b = some o → H' b = some o) : GX CG CC CT (fun b => if b ∈ S then H' b else H0 b) H' g dx lc lt cas tas w := by
  have out : ∀ b, H0 b = none → b ∉ S := fun b e z => by
    obtain ⟨o, q⟩ := hS b z
    rw [e] at q
    cases q
  have fr : ∀ b, H0 b = none → (if b ∈ S then H' b else H0 b) = none := fun b e => by rw [if_neg (out b e)]; exact e
  refine ⟨fun b o e => ?_, fr g h.g0, kp g _ (out g h.g0) h.hg, fr lc h.lc0, kp lc _ (out lc h.lc0) h.hc, fr lt h.lt0, kp lt _ (out lt h.lt0) h.ht, h.ne, ⟨h.cl.len, h.cl.nd, fun a ha => fr a (h.cl.free a ha), fun i a x hi hx => ?_⟩, ⟨h.tm.len, h.tm.nd, fun a ha => fr a (h.tm.free a ha), fun i a x hi hx => ?_⟩⟩
  · by_cases c : b ∈ S
    · rwa [if_pos c] at e
    · rw [if_neg c] at e
      exact kp b o c (h.s b o e)
  · obtain ⟨d, e⟩ := h.cl.at_ i a x hi hx
    exact ⟨d, kp a _ (out a (h.cl.free a (List.mem_of_getElem? hi))) e⟩
  · obtain ⟨d, e⟩ := h.tm.at_ i a x hi hx
    exact ⟨d, kp a _ (out a (h.tm.free a (List.mem_of_getElem? hi))) e⟩
/-- new things have come -/
theorem GX.grown (h : GX CG CC CT H0 H g dx lc lt cas tas w) (s : Same H H') : GX CG CC CT H0 H' g dx lc lt cas tas w :=
  ⟨h.s.trans s, h.g0, s _ _ h.hg, h.lc0, s _ _ h.hc, h.lt0, s _ _ h.ht, h.ne, ⟨h.cl.len, h.cl.nd, h.cl.free, fun i a x hi hx => by
    obtain ⟨d, e⟩ := h.cl.at_ i a x hi hx
    exact ⟨d, s _ _ e⟩⟩, ⟨h.tm.len, h.tm.nd, h.tm.free, fun i a x hi hx => by
    obtain ⟨d, e⟩ := h.tm.at_ i a x hi hx
    exact ⟨d, s _ _ e⟩⟩⟩
end
end Tk

namespace Tk
open PySem PySem.Spec PyProof.Rows L2
/-! ### sorted of triples of ints -/
abbrev I3 := Int × Int × Int
def ltI (p q : I3) : Bool := decide (p.1 < q.1 ∨ (p.1 = q.1 ∧ (p.2.1 < q.2.1 ∨ (p.2.1 = q.2.1 ∧ p.2.2 < q.2.2))))
theorem ltI_iff {p q : I3} : ltI p q = true ↔ (p.1 < q.1 ∨ (p.1 = q.1 ∧ (p.2.1 < q.2.1 ∨ (p.2.1 = q.2.1 ∧ p.2.2 < q.2.2)))) := decide_eq_true_iff
theorem ltI_no {p q : I3} : ltI p q = false ↔ ¬ (p.1 < q.1 ∨ (p.1 = q.1 ∧ (p.2.1 < q.2.1 ∨ (p.2.1 = q.2.1 ∧ p.2.2 < q.2.2)))) := decide_eq_false_iff_not
theorem ltI_swo {β : Type} (key : β → I3) : SrtO.Swo fun v u => ltI (key v) (key u) :=
  ⟨fun a b hab => ltI_no.mpr (by have := ltI_iff.mp hab; omega), fun a b c h1 h2 => ltI_no.mpr (by have := ltI_no.mp h1; have := ltI_no.mp h2; omega)⟩
/-- at v three ints stand in a tuple -/
def Is3 (h : Heap) (v : Value) (p : I3) : Prop := ∃ a o t1 t2 t3 n, v = .ref a ∧ h.get? a = some o ∧ o.cls = .type "tuple" ∧ o.data = .seq #[.int p.1 t1, .int p.2.1 t2, .int p.2.2 t3] n
theorem Is3.held {h h' : Heap} {v : Value} {p : I3} (i : Is3 h v p) (kp : ∀ b o, h.get? b = some o → o.cls = .type "tuple" → h'.get? b = some o) : Is3 h' v p := by
  obtain ⟨a, o, t1, t2, t3, n, ev, ho, hc, hd⟩ := i
  exact ⟨a, o, t1, t2, t3, n, ev, kp a o ho hc, hc, hd⟩
section
variable {prog : Program} {w : World} {A : Around} {E : Value → Shared → Prop} {s : Shared}
theorem cmp3 {vs : List Value} {key : Value → I3} (all3 : ∀ v ∈ vs, Is3 s.heap v (key v)) : SrtO.Cmp prog w A s (tuples' true) (fun p => p.1 ∈ vs) (SrtO.lt2 fun v u => ltI (key v) (key u)) := by
  intro p q hmp hmq
  have i1 := all3 _ hmp
  have i2 := all3 _ hmq
  show wpAny (model prog w) A (keyLt' (tuples' true) p.1 q.1) (fun r s' => s' = s ∧ r = ltI (key p.1) (key q.1)) (fun _ _ => False) s
  generalize key p.1 = x at i1 ⊢
  generalize key q.1 = y at i2 ⊢
  obtain ⟨x1, x2, x3⟩ := x
  obtain ⟨y1, y2, y3⟩ := y
  obtain ⟨a, o, t1, t2, t3, n, ea, ho, _, hd⟩ := i1
  obtain ⟨b, u, r1, r2, r3, m, eb, hu, _, hq⟩ := i2
  rw [ea, eb]
  have lt_of : ∀ {b : Bool}, ((x1 < y1 ∨ (x1 = y1 ∧ (x2 < y2 ∨ (x2 = y2 ∧ x3 < y3)))) ↔ b = true) → ltI (x1, x2, x3) (y1, y2, y3) = b := fun {b} hb => by
    cases b with
    | true => exact ltI_iff.mpr (hb.mpr rfl)
    | false => exact ltI_no.mpr fun z => by have := hb.mp z; cases this
  refine PySem.W.kat_lt ho hd hu hq ?_
  show PySem.W.KatLex prog w A true (decide (3 < 3)) _ [(.int x1 t1, .int y1 r1), (.int x2 t2, .int y2 r2), (.int x3 t3, .int y3 r3)] 0 s
  refine PySem.W.kat_cons (SeqAt.EqAt.int_int x1 t1 y1 r1 prog w _ _ ?_)
  refine PySem.W.kat_go (fun c1 => ?_) (fun c1 => ?_)
  · have q1 : x1 = y1 := by simpa using c1
    refine PySem.W.kat_yes (PySem.W.kat_cons (SeqAt.EqAt.int_int x2 t2 y2 r2 prog w _ _ ?_))
    refine PySem.W.kat_go (fun c2 => ?_) (fun c2 => ?_)
    · have q2 : x2 = y2 := by simpa using c2
      refine PySem.W.kat_yes (PySem.W.kat_cons (SeqAt.EqAt.int_int x3 t3 y3 r3 prog w _ _ ?_))
      refine PySem.W.kat_go (fun c3 => ?_) (fun c3 => ?_)
      · have q3 : x3 = y3 := by simpa using c3
        exact PySem.W.kat_yes (PySem.W.kat_nil ⟨rfl, (lt_of (b := false) (by simp; omega)).symm⟩)
      · have done : s = s ∧ decide (x3 < y3) = ltI (x1, x2, x3) (y1, y2, y3) := ⟨rfl, (lt_of (by rw [decide_eq_true_iff]; omega)).symm⟩
        exact PySem.W.kat_no (PySem.W.kat_one _ _ (PyProof.Rows.lt_int done))
    · have q2 : ¬ x2 = y2 := by simpa using c2
      have done : s = s ∧ decide (x2 < y2) = ltI (x1, x2, x3) (y1, y2, y3) := ⟨rfl, (lt_of (by rw [decide_eq_true_iff]; omega)).symm⟩
      exact PySem.W.kat_no (PySem.W.kat_one _ _ (PyProof.Rows.lt_int done))
  · have q1 : ¬ x1 = y1 := by simpa using c1
    have done : s = s ∧ decide (x1 < y1) = ltI (x1, x2, x3) (y1, y2, y3) := ⟨rfl, (lt_of (by rw [decide_eq_true_iff]; omega)).symm⟩
    exact PySem.W.kat_no (PyProof.Rows.oneLt_int done)
theorem heads3 {h : Heap} {key : Value → I3} : ∀ {vs : List Value}, (∀ v ∈ vs, Is3 h v (key v)) → ∃ fs : List Value, PySem.W.KatTups h vs fs ∧ fs.length = vs.length ∧ ∀ u ∈ fs, ∃ i t, u = Value.int i t
  | [], _ => ⟨[], PySem.W.KatTups.nil, rfl, fun _ hm => (List.not_mem_nil hm).elim⟩
  | v :: vs, all3 => by
    obtain ⟨fs, k1, k2, k3⟩ := heads3 (vs := vs) fun u hu => all3 u (List.mem_cons_of_mem _ hu)
    obtain ⟨a, o, t1, t2, t3, n, ev, ho, hc, hd⟩ := all3 v List.mem_cons_self
    subst ev
    refine ⟨_ :: fs, PySem.W.KatTups.cons ho hc hd rfl k1, by simp [k2], fun u hu => ?_⟩
    rcases List.mem_cons.mp hu with e | hu
    · exact ⟨_, _, e⟩
    · exact k3 u hu
theorem able3 {a : Addr} {vs : List Value} {key : Value → I3} (ne0 : 0 < vs.length) (all3 : ∀ v ∈ vs, Is3 s.heap v (key v)) (na : ∀ o, s.heap.get? a = some o → o.cls ≠ .type "tuple") : SrtO.SortableO prog w A s a vs fun v u => ltI (key v) (key u) := by
  intro h2 keep
  have all2 : ∀ v ∈ vs, Is3 h2 v (key v) := fun v hm => (all3 v hm).held fun b o e c => keep b o (fun z => na o (z ▸ e) c) e
  obtain ⟨fs, k1, k2, k3⟩ := heads3 all2
  refine ⟨tuples' true, fun Q E2 hq => PySem.W.kat_kind (T := .type "int") k1 (by omega) (fun u hu => ?_) (by rfl) ?_, cmp3 all2⟩
  · obtain ⟨i, t, rfl⟩ := k3 u hu
    exact PySem.W.Looks.now
  · have et : (Value.type "int" != Value.type "tuple") = true := by decide +kernel
    rw [et]
    exact hq
end
/-- sorted(xs), xs a list of triples of ints, any number of them -/
def rSorted3 (K : PySem.W.Frag) : List V → Hp → VK → Prop := fun vs H Q => ∃ (a : Addr) (xs : List V) (key : V → I3), vs = [V.ref a] ∧ SqL K H a xs ∧ (∀ x ∈ xs, ∃ t, x = V.ref t ∧ H t = some (.tup [.int (key x).1, .int (key x).2.1, .int (key x).2.2])) ∧
  ∀ ys p, ys.Pairwise (fun x y => ltI (key y) (key x) = false) → ys.Perm xs → H p = none → Q (.ref p) (upd H p (.lst ys))
theorem three {x y z : V} {us : List Value} (r : Vals [x, y, z] us) : ∃ u v t, us = [u, v, t] ∧ RelV x u ∧ RelV y v ∧ RelV z t := by
  cases r with
  | cons h1 r =>
    obtain ⟨v, t, rfl, h2, h3⟩ := vals2 r
    exact ⟨_, v, t, rfl, h1, h2, h3⟩
theorem cr_sorted3 {X : Cx} : CallR X (.builtin "sorted") (rSorted3 X.K) := by
  intro pins s σ H vs us Q I r hh
  obtain ⟨a, xs, key, rfl, hs, hx, fin⟩ := hh
  obtain ⟨its, rv, hl, hz⟩ := I.list hs
  obtain ⟨u, rfl, ru⟩ := vals1 r
  obtain rfl : u = Value.ref a := ru
  obtain ⟨ex, er⟩ := refs_back rv fun x m => by
    obtain ⟨t, e, _⟩ := hx x m
    exact ⟨t, e⟩
  have all3 : ∀ v ∈ its, Is3 s.heap v (key (backV v)) := fun v hv => by
    obtain ⟨t, rfl⟩ := er v hv
    have hm : V.ref t ∈ xs := by
      rw [ex]
      exact List.mem_map.mpr ⟨_, hv, rfl⟩
    obtain ⟨t2, e, ht⟩ := hx _ hm
    cases e
    obtain ⟨_, cells, rc, o, ho, hc, n, hd⟩ := I.hok _ _ ht
    obtain ⟨u1, u2, u3, rfl, w1, w2, w3⟩ := three rc
    obtain ⟨t1, rfl⟩ := w1
    obtain ⟨t2, rfl⟩ := w2
    obtain ⟨t3, rfl⟩ := w3
    exact ⟨t, o, t1, t2, t3, n, rfl, ho, hc, hd⟩
  refine SrtO.sorted_ord (ltI_swo fun u => key (backV u)) hl.isList (by rw [← rv.length]; exact hz) (fun h2 h1 b hb kk => ?_) fun out so st => ?_
  · refine able3 (s := { s with heap := h1 }) (by omega) (fun v hm => (all3 v hm).held fun c o e _ => (kk c o e).2) fun o e => ?_
    have e2 : some o = some (seqObj "list" its.toArray 0) := e.symm.trans hb
    cases e2
    exact fun c => absurd (Value.type.inj c) (by decide)
  · have refs : ∀ u ∈ out, ∃ a, u = Value.ref a := fun u hu => er u (st.perm.mem_iff.mp hu)
    obtain ⟨n, hn⟩ := PyProof.Rows.sortedAll_at s.heap its out.toArray
    have hp : (out.map backV).Perm xs := by
      rw [ex]
      exact st.perm.map backV
    refine ⟨.ref (s.heap.objs.size + 1), upd H (s.heap.objs.size + 1) (.lst (out.map backV)), I.laid (t' := s.toks) (fun b o e => PyProof.Rows.sortedAll_old e) (Nat.le_succ _) ⟨?_, out, n, vals_back refs, hn⟩, rfl, fin _ _ (List.pairwise_map.mpr so) hp (I.hok.fresh (Nat.le_succ _))⟩
    rw [hp.length_eq]
    exact hz
end Tk

namespace Tk
open PySem PySem.Spec PyProof.Rows L2
/-! ### triples in the heap -/
def rd (H : Hp) : V → Option I3
  | .ref t => match H t with
    | some (.tup [.int a, .int b, .int c]) => some (a, b, c)
    | _ => none
  | _ => none
theorem rd_of {H : Hp} {t : Addr} {a b c : Int} (h : H t = some (.tup [.int a, .int b, .int c])) : rd H (.ref t) = some (a, b, c) := by
  show (match H t with
    | some (.tup [.int a, .int b, .int c]) => some (a, b, c)
    | _ => none) = _
  rw [h]
theorem rd_is {H : Hp} {x : V} {p : I3} (h : rd H x = some p) : ∃ t, x = .ref t ∧ H t = some (.tup [.int p.1, .int p.2.1, .int p.2.2]) := by
  have no : ∀ y : V, (∀ t, y ≠ .ref t) → rd H y = none := fun y hy => by
    cases y with
    | ref t => exact absurd rfl (hy t)
    | _ => rfl
  cases x with
  | ref t =>
    refine ⟨t, rfl, ?_⟩
    change (match H t with
      | some (.tup [.int a, .int b, .int c]) => some (a, b, c)
      | _ => none) = some p at h
    split at h
    · rename_i a b c e
      cases h
      exact e
    · cases h
  | _ =>
    have e := (no _ (by intro t z; cases z)).symm.trans h
    cases e
def c3 (p : Nat × Nat × Nat) : I3 := ((p.1 : Int), (p.2.1 : Int), (p.2.2 : Int))
def n3 (p : I3) : Nat × Nat × Nat := (p.1.toNat, p.2.1.toNat, p.2.2.toNat)
theorem n3_c3 (p : Nat × Nat × Nat) : n3 (c3 p) = p := rfl
def T3 (H : Hp) (R : List V) (L : List (Nat × Nat × Nat)) : Prop := R.map (rd H) = L.map fun p => some (c3 p)
theorem T3.nil {H : Hp} : T3 H [] [] := rfl
theorem T3.app {H : Hp} {R R' : List V} {L L' : List (Nat × Nat × Nat)} (h : T3 H R L) (h' : T3 H R' L') : T3 H (R ++ R') (L ++ L') := by
  unfold T3 at *
  rw [List.map_append, List.map_append, h, h']
theorem T3.len {H : Hp} {R : List V} {L : List (Nat × Nat × Nat)} (h : T3 H R L) : R.length = L.length := by
  have := congrArg List.length h
  simpa using this
theorem T3.each {H : Hp} {R : List V} {L : List (Nat × Nat × Nat)} (h : T3 H R L) {x : V} (hx : x ∈ R) : ∃ p ∈ L, rd H x = some (c3 p) := by
  have h1 : rd H x ∈ R.map (rd H) := List.mem_map.mpr ⟨x, hx, rfl⟩
  rw [h] at h1
  obtain ⟨p, hp, e⟩ := List.mem_map.mp h1
  exact ⟨p, hp, e.symm⟩
theorem T3.at_ {H : Hp} {R : List V} {L : List (Nat × Nat × Nat)} (h : T3 H R L) {i : Nat} {x : V} (hx : R[i]? = some x) : ∃ p, L[i]? = some p ∧ rd H x = some (c3 p) := by
  have h1 : (R.map (rd H))[i]? = some (rd H x) := by rw [List.getElem?_map, hx]; rfl
  rw [h, List.getElem?_map] at h1
  cases e : L[i]? with
  | none => rw [e] at h1; cases h1
  | some p =>
    rw [e] at h1
    exact ⟨p, rfl, (Option.some.inj h1).symm⟩
theorem T3.moved {H H' : Hp} {R : List V} {L : List (Nat × Nat × Nat)} (h : T3 H R L) (k : ∀ t a b c, H t = some (.tup [.int a, .int b, .int c]) → H' t = some (.tup [.int a, .int b, .int c])) : T3 H' R L := by
  unfold T3 at *
  rw [← h]
  refine List.map_congr_left fun x hx => ?_
  obtain ⟨p, _, e⟩ := T3.each h hx
  obtain ⟨t, rfl, ht⟩ := rd_is e
  rw [e, rd_of (k t _ _ _ ht)]
theorem T3.same {H H' : Hp} {R : List V} {L : List (Nat × Nat × Nat)} (h : T3 H R L) (s : Same H H') : T3 H' R L := h.moved fun t _ _ _ e => s t _ e
theorem T3.put {H : Hp} {R xs : List V} {L : List (Nat × Nat × Nat)} {p : Addr} {o : HO} (h : T3 H R L) (hp : H p = some (.lst xs)) : T3 (upd H p o) R L := h.moved fun t _ _ _ e => by
  rw [upd_ne (ne_of e hp (fun z => nomatch z))]
  exact e
/-! ### timers while they ring -/
section
variable (cl : List GClock)
def af (t : GTimer) : GTimer := after (nowOf cl t) t
def midT (ts : List GTimer) (i : Nat) : List GTimer := (ts.take i).map (af cl) ++ ts.drop i
def picks (as : List Addr) (ts : List GTimer) : List (Addr × GTimer) := (as.zip ts).filterMap fun p => ((Ge03.rings 100 (nowOf cl p.2) p.2).2).map fun t' => (p.1, t')
variable {cl}
theorem midT_zero (ts : List GTimer) : midT cl ts 0 = ts := by simp [midT]
theorem midT_all (ts : List GTimer) : midT cl ts ts.length = ts.map (af cl) := by simp [midT]
theorem midT_at {ts : List GTimer} {i : Nat} {t : GTimer} (hi : ts[i]? = some t) : (midT cl ts i)[i]? = some t := by
  have hlt := (List.getElem?_eq_some_iff.mp hi).1
  have hl : ((ts.take i).map (af cl)).length = i := by rw [List.length_map, List.length_take]; omega
  unfold midT
  rw [List.getElem?_append_right (by omega), hl, Nat.sub_self, List.getElem?_drop, Nat.add_zero]
  exact hi
theorem midT_next {ts : List GTimer} {i : Nat} {t : GTimer} (hi : ts[i]? = some t) : (midT cl ts i).set i (af cl t) = midT cl ts (i + 1) := by
  have hlt := (List.getElem?_eq_some_iff.mp hi).1
  have hl : ((ts.take i).map (af cl)).length = i := by rw [List.length_map, List.length_take]; omega
  have e : ts.drop i = t :: ts.drop (i + 1) := by
    rw [List.drop_eq_getElem_cons hlt]
    congr 1
    exact (List.getElem?_eq_some_iff.mp hi).2
  unfold midT
  rw [take_more hi, e, List.set_append_right _ _ (by omega), hl, Nat.sub_self, List.map_append]
  show _ ++ (_ :: ts.drop (i + 1)) = (_ ++ [_]) ++ _
  rw [List.append_assoc]
  rfl
theorem picks_next {as : List Addr} {ts : List GTimer} {i : Nat} {a : Addr} {t : GTimer} (ha : as[i]? = some a) (hi : ts[i]? = some t) :
    picks cl (as.take (i + 1)) (ts.take (i + 1)) = picks cl (as.take i) (ts.take i) ++ (((Ge03.rings 100 (nowOf cl t) t).2).map fun t' => (a, t')).toList := by
  unfold picks
  have h1 := (List.getElem?_eq_some_iff.mp ha).1
  have h2 := (List.getElem?_eq_some_iff.mp hi).1
  rw [take_more ha, take_more hi, List.zip_append (by rw [List.length_take, List.length_take]; omega), List.filterMap_append]
  congr 1
theorem picks_snd {as : List Addr} {ts : List GTimer} (h : as.length = ts.length) : (picks cl as ts).map (·.2) = stays cl ts := by
  unfold picks stays
  rw [List.map_filterMap]
  have e : ∀ (as : List Addr) (ts : List GTimer), as.length = ts.length → ((as.zip ts).filterMap fun x => (((Ge03.rings 100 (nowOf cl x.2) x.2).2).map fun t' => (x.1, t')).map (·.2)) = ts.filterMap fun t => (Ge03.rings 100 (tk cl t.clock) t).2 := by
    intro as
    induction as with
    | nil => intro ts h; cases ts with
      | nil => rfl
      | cons _ _ => cases h
    | cons a as ih => intro ts h; cases ts with
      | nil => cases h
      | cons t ts =>
        have := ih ts (by simpa using h)
        rw [List.zip_cons_cons, List.filterMap_cons, List.filterMap_cons, this]
        dsimp only [nowOf]
        cases (Ge03.rings 100 (tk cl t.clock) t).2 <;> rfl
  exact e as ts h
theorem picks_fst (as : List Addr) (ts : List GTimer) : ((picks cl as ts).map (·.1)).Sublist as := by
  unfold picks
  rw [List.map_filterMap]
  have e : ∀ (as : List Addr) (ts : List GTimer), ((as.zip ts).filterMap fun x => (((Ge03.rings 100 (nowOf cl x.2) x.2).2).map fun t' => (x.1, t')).map (·.1)).Sublist as := by
    intro as
    induction as with
    | nil => intro ts; exact List.Sublist.refl _
    | cons a as ih => intro ts; cases ts with
      | nil => exact List.nil_sublist _
      | cons t ts =>
        rw [List.zip_cons_cons, List.filterMap_cons]
        dsimp only
        cases (Ge03.rings 100 (nowOf cl t) t).2 with
        | none => exact (ih ts).cons a
        | some t' => exact (ih ts).cons_cons a
  exact e as ts
theorem picks_objs {CT : Addr} {H0 H : Hp} {as : List Addr} {ts : List GTimer} (h : Objs CT tF H0 H as (ts.map (af cl))) : Objs CT tF H0 H ((picks cl as ts).map (·.1)) (stays cl ts) := by
  have hl : as.length = ts.length := by rw [h.len, List.length_map]
  have sub := picks_fst (cl := cl) as ts
  refine ⟨?_, sub.nodup h.nd, fun a ha => h.free a (sub.subset ha), fun j a t' hj ht => ?_⟩
  · rw [← picks_snd hl, List.length_map, List.length_map]
  · rw [← picks_snd hl, List.getElem?_map] at ht
    rw [List.getElem?_map] at hj
    cases e : (picks cl as ts)[j]? with
    | none => rw [e] at hj; cases hj
    | some z =>
      rw [e] at hj ht
      have hz : z ∈ picks cl as ts := List.mem_of_getElem? e
      obtain ⟨p, hp, ep⟩ := List.mem_filterMap.mp hz
      obtain ⟨i, hi⟩ := List.mem_iff_getElem?.mp hp
      rw [List.getElem?_zip_eq_some] at hi
      cases er : (Ge03.rings 100 (nowOf cl p.2) p.2).2 with
      | none => rw [er] at ep; cases ep
      | some u =>
        rw [er] at ep
        have ez : (p.1, u) = z := Option.some.inj ep
        subst ez
        have e1 : p.1 = a := Option.some.inj hj
        have e2 : u = t' := Option.some.inj ht
        have e3 : af cl p.2 = u := by
          unfold af after
          rw [er]
          rfl
        rw [← e1, ← e2, ← e3]
        exact h.at_ i p.1 (af cl p.2) hi.1 (by rw [List.getElem?_map, hi.2]; rfl)
theorem af_is {t : GTimer} (h : nowOf cl t < t.due + 64) : (af cl t).clock = t.clock ∧ (af cl t).number = t.number ∧ (af cl t).again = t.again := by
  unfold af after
  cases e : (Ge03.rings 100 (nowOf cl t) t).2 with
  | none => exact ⟨rfl, rfl, rfl⟩
  | some u =>
    obtain ⟨_, a, b, c, _⟩ := stay_of h e
    exact ⟨b, a, c⟩
theorem stays_iff {t : GTimer} (h : nowOf cl t < t.due + 64) : ((Ge03.rings 100 (nowOf cl t) t).2.isSome = true ↔ (0 < t.again ∨ (Ge03.rings 100 (nowOf cl t) t).1 = 0)) := by
  rcases rings_ways h with ⟨_, e⟩ | ⟨_, ha, e⟩ | ⟨_, ha, j, _, _, _, e⟩
  · rw [e]; simp
  · rw [e]; simp; omega
  · rw [e]; simp; omega
theorem tri_take {t : GTimer} {j d : Nat} (h : (duesOf t (Ge03.rings 100 (nowOf cl t) t).1)[j]? = some d) : (tri (nowOf cl) t).take (j + 1) = (tri (nowOf cl) t).take j ++ [(t.clock, d, t.number)] := by
  apply take_more
  unfold tri
  rw [List.getElem?_map, h]
  rfl
end
end Tk

namespace Tk
open PySem PySem.Spec PyProof.Rows L2
def spRings (CG CC CT : Addr) : Sp := fun vs H Q _ => ∃ (H0 : Hp) (g : Addr) (w : GWorld), vs = [.ref g] ∧ GameAt CG CC CT H0 H g w ∧ CkOk w.clocks ∧ w.timers.length ≤ 12 ∧ (∀ t ∈ w.timers, t.clock < w.clocks.length ∧ nowOf w.clocks t < t.due + 64) ∧
  ∀ (H1 H' : Hp) (p : Addr) (ys : List V) (L : List (Nat × Nat × Nat)), Same H0 H1 → H0 p = none → H1 p = some (.lst ys) → T3 H1 ys L → L.map back = rung w.clocks w.timers → L.length ≤ 768 → GameAt CG CC CT H1 H' g { w with timers := stays w.clocks w.timers } → Q (.ref p) H'
section
variable {P : Program} {w : World} {K : PySem.W.Frag} {mg : Str → Option Value} {base : Heap} {CG CC CT : Addr}
theorem ref_get {as : List Addr} {i : Nat} {a : Addr} (h : as[i]? = some a) : (as.map V.ref)[i]? = some (V.ref a) := by
  rw [List.getElem?_map, h]
  rfl
theorem vN_at {l : List Nat} {i : Nat} {y : V} (h : (vN l)[i]? = some y) : ∃ d, l[i]? = some d ∧ y = V.int (d : Int) := by
  unfold vN at h
  rw [List.getElem?_map] at h
  cases e : l[i]? with
  | none => rw [e] at h; cases h
  | some d => rw [e] at h; exact ⟨d, rfl, (Option.some.inj h).symm⟩
/-- a heap without one address -/
def less (H : Hp) (p : Addr) : Hp := fun b => if b = p then none else H b
theorem less_at {H : Hp} {p : Addr} : less H p p = none := if_pos rfl
theorem less_ne {H : Hp} {p b : Addr} (h : b ≠ p) : less H p b = H b := if_neg h
theorem less_same {H : Hp} {p : Addr} : Same (less H p) H := fun b o e => by
  by_cases c : b = p
  · rw [c, less_at] at e; cases e
  · rwa [less_ne c] at e
/-- sorted triples are what rings -/
theorem sorted_rung {cl : List GClock} (ck : CkOk cl) {ts : List GTimer} (htc : ∀ t ∈ ts, t.clock < cl.length) {Hf : Hp} {R ys : List V} (h3 : T3 Hf R (tris (nowOf cl) ts)) (hp : ys.Perm R) (hs : ys.Pairwise (fun x y => ltI ((rd Hf y).getD (0, 0, 0)) ((rd Hf x).getD (0, 0, 0)) = false)) :
    ∃ L, T3 Hf ys L ∧ L.map back = rung cl ts ∧ L.length = (tris (nowOf cl) ts).length := by
  have each : ∀ y ∈ ys, ∃ p, rd Hf y = some (c3 p) := fun y hy => by
    obtain ⟨p, _, e⟩ := h3.each (hp.mem_iff.mp hy)
    exact ⟨p, e⟩
  let f : V → Nat × Nat × Nat := fun x => n3 ((rd Hf x).getD (0, 0, 0))
  have e1 : R.map f = tris (nowOf cl) ts := by
    have : R.map f = (R.map (rd Hf)).map fun o => n3 (o.getD (0, 0, 0)) := by
      rw [List.map_map]
      rfl
    rw [this, h3, List.map_map]
    have e : ((fun o : Option I3 => n3 (o.getD (0, 0, 0))) ∘ fun p : Nat × Nat × Nat => some (c3 p)) = id := by funext p; rfl
    rw [e, List.map_id]
  have e2 : (ys.map f).Perm (tris (nowOf cl) ts) := e1 ▸ hp.map f
  refine ⟨ys.map f, ?_, sorted_is ck htc e2 ?_, e2.length_eq⟩
  · unfold T3
    rw [List.map_map]
    refine List.map_congr_left fun y hy => ?_
    obtain ⟨p, e⟩ := each y hy
    show rd Hf y = some (c3 (n3 ((rd Hf y).getD (0, 0, 0))))
    rw [e]
    rfl
  · rw [List.pairwise_map]
    refine List.Pairwise.imp_of_mem (fun {x y} hx hy h => ?_) hs
    obtain ⟨p, ep⟩ := each x hx
    obtain ⟨q, eq⟩ := each y hy
    have h1 := ltI_no.mp h
    have fx : f x = p := by show n3 ((rd Hf x).getD (0, 0, 0)) = p; rw [ep]; rfl
    have fy : f y = q := by show n3 ((rd Hf y).getD (0, 0, 0)) = q; rw [eq]; rfl
    rw [fx, fy]
    rw [ep, eq] at h1
    simp only [Option.getD_some, c3] at h1
    simp only [leT]
    omega
theorem scRi : FnScope ["self", "rings", "staying", "timer", "clock", "dues", "due"] ["self"] (defScope sRings) := ⟨rfl, rfl, rfl, by decide +kernel, rfl, by decide +kernel, by decide +kernel⟩
theorem ok_rings {f fD : Addr} {fd fdD : FuncData} (F : Fun K "take_rings" "Game.take_rings" sRings f fd) (T : Txt K mg CG CC CT) (GD : FnOk P w K mg base CX0 1 fD fdD ["self", "ticks"] (spDues CT)) (bD : Binds K fdD ["self", "ticks"] []) (mD : Meth K CT "take_dues" fD) :
    FnOk P w K mg base CX0 2 f fd ["self"] (spRings CG CC CT) := by
  refine F.ok scRi (fun vs H Q E h => ?_) (fun cdv A outer s H vs Q E hr h => ?_)
  · obtain ⟨H0, g, w, rfl, _⟩ := h
    rfl
  · obtain ⟨H0, g, w, rfl, ⟨dx, lc, lt, cas, tas, X⟩, ck, h12, htm, k⟩ := h
    refine ⟨_, pss_cons (ps_set (i := 1) scRi.nd rfl (Or.inl rfl) (pe_lst pa_nil)) (pss_cons (ps_set (i := 2) scRi.nd rfl (Or.inl rfl) (pe_lst pa_nil))
      (pss_cons (ps_for PassesOwn.never rfl (pi_list (pe_fld (pv 0) rfl)) (pg_name (i := 3) scRi.nd rfl (Or.inr rfl))
        (pss_cons (ps_set (i := 4) scRi.nd rfl (Or.inl rfl) (pe_ix ix_list (pe_fld (pv 0) rfl) (pe_fld (pv 3) rfl) (fun _ _ => rfl)))
        (pss_cons (ps_set (i := 5) scRi.nd rfl (Or.inl rfl) (pe_meth (pv 3) T.clT mD GD hr bD .nil pass0 (pa_cons (pe_fld (pv 4) rfl) pa_nil)))
        (pss_cons (ps_expr (pe_bm PySem.F.plainAttrs_list PySem.F.slot_list_extend PySem.F.type_list_extend mt_extend (pv 1) (pa_cons
            (pe_lc (own := [("due", 6)]) (g := gName 6) (tt := tYes) (te := tTup (tCons (tFld K (tVar 3) "clock") (tCons (tVar 6) (tCons (tFld K (tVar 3) "number") tNil)))) rfl scRi.nd (pi_list (pv 5)) (blkOk_by (N := ["self", "rings", "staying", "timer", "clock", "dues", "due"]) (sc := defScope sRings) (by decide +kernel)) (fun _ _ _ _ _ => pg_name (i := 6) scRi.nd rfl (Or.inl rfl)) (fun _ _ _ _ _ => pts_nil)
              (fun _ _ _ _ _ => pe_tup (pa_cons (pe_fld (pv 3) rfl) (pa_cons (pv 6) (pa_cons (pe_fld (pv 3) rfl) pa_nil))))) pa_nil)))
        (pss_one (ps_if (PW.pt (pw_or (pt_cmpR op_gt (pe_fld (pv 3) rfl) pe_int (nomark _)) (pw_or1 (pt_cmpR op_eq (pe_callB call_len_seq (by rfl) T.len PySem.boot_len (pa_cons (pv 5) pa_nil)) pe_int (nomark _)))))
          (pss_one (ps_expr (pe_bm PySem.F.plainAttrs_list PySem.F.slot_list_append PySem.F.type_list_append mt_append (pv 2) (pa_cons (pv 3) pa_nil)))) pss_nil))))))
      (pss_cons (ps_fld (pv 0) (pv 2) rfl)
      (pss_one (ps_ret (pe_callB cr_sorted3 (by rfl) T.srt (by decide +kernel) (pa_cons (pv 1) pa_nil))))))), ?_⟩
    refine ⟨Nat.zero_le _, fun r hr0 => ?_⟩
    refine ⟨Nat.zero_le _, fun st hst => ?_⟩
    obtain ⟨nsr, hst0⟩ := fresh hst
    have r0 : H0 r = none := X.s.free hr0
    have st0 : H0 st = none := X.s.free hst0
    have X1 := (X.put (o := .lst []) (.inr hr0)).put (p := st) (o := .lst []) (.inr hst)
    have sl : ∀ i, (tris (nowOf w.clocks) (w.timers.take i)).length ≤ 768 := fun i => by
      have h1 := tris_len (now := nowOf w.clocks) (ts := w.timers.take i) fun t ht => (htm t (List.mem_of_mem_take ht)).2
      have h2 : (w.timers.take i).length ≤ w.timers.length := List.length_take_le' _ _
      omega
    refine ⟨_, rfl, g, CG, dx, _, _, rfl, X1.hg, T.clG, T.g7, gF_timers _ _ _, lt, rfl, ⟨_, SqL.of X1.ht⟩, for_list (K := K) (a := lt) (xs := tas.map V.ref) (fun i σ H' => ∃ (v3 v4 v5 : Option V) (Hf : Hp) (R : List V), σ = [some (.ref g), some (.ref r), some (.ref st), v3, v4, v5, none] ∧ i ≤ w.timers.length ∧ Same H0 Hf ∧
        Hf r = some (.lst R) ∧ Hf st = some (.lst (((picks w.clocks (tas.take i) (w.timers.take i)).map (·.1)).map V.ref)) ∧ T3 Hf R (tris (nowOf w.clocks) (w.timers.take i)) ∧ GX CG CC CT Hf H' g dx lc lt cas tas { w with timers := midT w.clocks w.timers i })
      ⟨none, none, none, upd (upd H0 r (.lst [])) st (.lst []), [], rfl, Nat.zero_le _, (same_new r0).trans (same_new (by rw [upd_ne nsr]; exact st0)), by rw [upd_ne nsr.symm, upd_same], by rw [upd_same]; simp [picks], by simp [T3, tris], by rw [midT_zero]; exact X1⟩ (fun i σ H' _ ⟨_, _, _, _, _, _, _, _, _, _, _, X2⟩ => SqL.of X2.ht) ?_ ?_⟩
    · rintro i y σ H' hi ⟨v3, v4, v5, Hf, R, rfl, hil, sf, hR, hS, h3, X2⟩
      obtain ⟨a, ha, rfl⟩ := ref_at hi
      have hlt : i < w.timers.length := by
        have h1 := (List.getElem?_eq_some_iff.mp ha).1
        have h2 := X.tm.len
        omega
      obtain ⟨t, ht⟩ : ∃ t, w.timers[i]? = some t := ⟨_, List.getElem?_eq_getElem hlt⟩
      obtain ⟨tc, tn⟩ := htm t (List.mem_of_getElem? ht)
      obtain ⟨dt, hta⟩ := X2.tm.at_ i a t ha (midT_at ht)
      obtain ⟨c, hc⟩ : ∃ c, w.clocks[t.clock]? = some c := ⟨_, List.getElem?_eq_getElem tc⟩
      obtain ⟨ca, hca'⟩ : ∃ ca, cas[t.clock]? = some ca := ⟨_, List.getElem?_eq_getElem (by rw [X.cl.len]; exact tc)⟩
      obtain ⟨dc, hca⟩ := X2.cl.at_ t.clock ca c hca' hc
      have ec : c.ticks = nowOf w.clocks t := by
        unfold nowOf tk
        rw [hc]
        rfl
      obtain ⟨af1, af2, af3⟩ := af_is tn
      -- clock = self.clocks[timer.clock]
      refine ⟨_, rfl, g, CG, dx, _, _, rfl, X2.hg, T.clG, T.g6, gF_clocks _ _ _, _, rfl, a, CT, dt, _, _, rfl, hta, T.clT, T.t2, tF_clock t, lc, _, (t.clock : Int), _, rfl, rfl, SqL.of X2.hc, atI_nat (ref_get hca'), ?_⟩
      -- dues = timer.take_dues(clock.ticks)
      refine ⟨_, rfl, a, dt, _, rfl, hta, tF_dues t, _, rfl, ca, CC, dc, _, _, rfl, hca, T.clC, T.c3, cF_ticks c, a, dt, t, c.ticks, rfl, hta, (by rw [ec]; exact tn), fun q H2 hq hq2 ha2 ho => ?_⟩
      rw [ec] at hq2 ha2
      have naq : a ≠ q := ne_of_none hta hq
      have eH : H2 = upd (upd H' a (.ins CT dt (tF (af w.clocks t)))) q (.lst (vN (duesOf t (Ge03.rings 100 (nowOf w.clocks t) t).1))) := by
        funext b
        by_cases c1 : b = q
        · subst c1
          rw [upd_same]
          exact hq2
        · rw [upd_ne c1]
          by_cases c2 : b = a
          · subst c2
            rw [upd_same]
            exact ha2
          · rw [upd_ne c2]
            exact ho b c2 c1
      subst eH
      have X3 := X2.setTimer (d := dt) (t' := af w.clocks t) ha
      have e1 : ({ w with timers := midT w.clocks w.timers i } : GWorld).timers.set i (af w.clocks t) = midT w.clocks w.timers (i + 1) := midT_next ht
      rw [e1] at X3
      have hq' : (upd H' a (.ins CT dt (tF (af w.clocks t)))) q = none := by rw [upd_ne naq.symm]; exact hq
      have X4 := X3.put (p := q) (o := .lst (vN (duesOf t (Ge03.rings 100 (nowOf w.clocks t) t).1))) (.inr hq')
      have q0 : Hf q = none := X3.s.free hq'
      have sf4 : Same Hf (upd Hf q (.lst (vN (duesOf t (Ge03.rings 100 (nowOf w.clocks t) t).1)))) := same_new q0
      have nqr : q ≠ r := fun z => by rw [z, hR] at q0; cases q0
      have mid1 : (midT w.clocks w.timers (i + 1))[i]? = some (af w.clocks t) := by
        rw [← midT_next ht, List.getElem?_set_self]
        exact (List.getElem?_eq_some_iff.mp (midT_at (cl := w.clocks) ht)).1
      have dl : (duesOf t (Ge03.rings 100 (nowOf w.clocks t) t).1).length = (Ge03.rings 100 (nowOf w.clocks t) t).1 := by unfold duesOf; rw [List.length_map, List.length_range]
      have trl : (tri (nowOf w.clocks) t).length = (Ge03.rings 100 (nowOf w.clocks t) t).1 := by unfold tri; rw [List.length_map, dl]
      have trl2 := tri_len (now := nowOf w.clocks) tn
      generalize hHf4 : upd Hf q (.lst (vN (duesOf t (Ge03.rings 100 (nowOf w.clocks t) t).1))) = Hf4 at *
      have hq4 : Hf4 q = some (.lst (vN (duesOf t (Ge03.rings 100 (nowOf w.clocks t) t).1))) := by rw [← hHf4, upd_same]
      -- rings.extend([(timer.clock, due, timer.number) for due in dues])
      refine ⟨_, rfl, .inl ⟨rfl, _, SqL.of (X4.s _ _ (sf4 _ _ hR))⟩, _, rfl, q, rfl, ⟨_, SqL.of upd_same⟩, fun D hD => lc_list (K := K) (a := q) (xs := vN (duesOf t (Ge03.rings 100 (nowOf w.clocks t) t).1)) (fun j H5 => ∃ (H5f : Hp) (R2 : List V), Same Hf4 H5f ∧ H5f D = some (.lst R2) ∧ T3 H5f R2 ((tri (nowOf w.clocks) t).take j) ∧
          GX CG CC CT H5f H5 g dx lc lt cas tas { w with timers := midT w.clocks w.timers (i + 1) })
        ⟨_, [], same_new (X4.s.free hD), upd_same, by simp [T3], X4.put (.inr hD)⟩ (fun j H5 _ ⟨H5f, R2, s5, _, _, X5⟩ => SqL.of (X5.s _ _ (s5 _ _ hq4))) ?_ ?_⟩
      · rintro j x H5 hj ⟨H5f, R2, s5, hD5, t5, X5⟩
        obtain ⟨d, hd, rfl⟩ := vN_at hj
        obtain ⟨dt5, hta5⟩ := X5.tm.at_ i a _ ha mid1
        refine ⟨rfl, ?_⟩
        refine ⟨_, rfl, a, CT, dt5, _, _, rfl, hta5, T.clT, T.t2, tF_clock _, _, rfl, _, rfl, a, CT, dt5, _, _, rfl, hta5, T.clT, T.t1, tF_number _, (by show 3 ≤ sizeLine; decide), fun p hp => ?_⟩
        have npD : D ≠ p := ne_of_none (X5.s _ _ hD5) hp
        have p0 : H5f p = none := X5.s.free hp
        have X6 := X5.put (p := p) (o := .tup [.int ((af w.clocks t).clock : Int), .int (d : Int), .int ((af w.clocks t).number : Int)]) (.inr hp)
        have hD6 : upd H5f p (.tup [.int ((af w.clocks t).clock : Int), .int (d : Int), .int ((af w.clocks t).number : Int)]) D = some (.lst R2) := (upd_ne npD).trans hD5
        have X7 := X6.put (p := D) (o := .lst (R2 ++ [.ref p])) (.inl ⟨_, hD6⟩)
        have hjl : j < (duesOf t (Ge03.rings 100 (nowOf w.clocks t) t).1).length := (List.getElem?_eq_some_iff.mp hd).1
        have hl2 := t5.len
        rw [List.length_take] at hl2
        refine ⟨R2, by rw [upd_ne npD]; exact X5.s _ _ hD5, small (by omega), _, R2 ++ [.ref p], same_stored (s5.trans (same_new p0)) (X4.s.free hD), upd_same, ?_, X7⟩
        rw [tri_take hd]
        refine T3.app ((t5.same (same_new p0)).put hD6) ?_
        show [rd _ (V.ref p)] = [some (c3 (t.clock, d, t.number))]
        rw [rd_of ((upd_ne npD.symm).trans upd_same), af1, af2]
        rfl
      · rintro H5 ⟨H5f, R2, s5, hD5, t5, X5⟩
        rw [vN_len, dl, ← trl, List.take_length] at t5
        have hR5 : H5f r = some (.lst R) := s5 _ _ (sf4 _ _ hR)
        have l1 := h3.len
        have l2 := t5.len
        have l3 := sl i
        refine ⟨r, D, R, R2, rfl, rfl, X5.s _ _ hR5, X5.s _ _ hD5, Nat.le_of_lt (small (by omega)), ?_⟩
        have X6 := X5.put (p := r) (o := .lst (R ++ R2)) (.inl ⟨_, hR5⟩)
        obtain ⟨dt6, hta6⟩ := X6.tm.at_ i a _ ha mid1
        have s6 : Same H0 (upd H5f r (.lst (R ++ R2))) := same_stored ((sf.trans sf4).trans s5) r0
        have hS6 : upd H5f r (.lst (R ++ R2)) st = some (.lst (((picks w.clocks (tas.take i) (w.timers.take i)).map (·.1)).map V.ref)) := (upd_ne nsr).trans (s5 _ _ (sf4 _ _ hS))
        have hq6 : upd H5f r (.lst (R ++ R2)) q = some (.lst (vN (duesOf t (Ge03.rings 100 (nowOf w.clocks t) t).1))) := (upd_ne nqr).trans (s5 _ _ hq4)
        have t6 : T3 (upd H5f r (.lst (R ++ R2))) (R ++ R2) (tris (nowOf w.clocks) (w.timers.take (i + 1))) := by
          have e2 : tris (nowOf w.clocks) (w.timers.take (i + 1)) = tris (nowOf w.clocks) (w.timers.take i) ++ tri (nowOf w.clocks) t := by
            unfold tris
            rw [take_more ht, List.flatMap_append]
            simp
          rw [e2]
          exact T3.app (((h3.same sf4).same s5).put hR5) (t5.put hR5)
        have hR6 : upd H5f r (.lst (R ++ R2)) r = some (.lst (R ++ R2)) := upd_same
        generalize upd H5f r (.lst (R ++ R2)) = H6f at *
        have pk := picks_next (cl := w.clocks) ha ht
        have lenS : (((picks w.clocks (tas.take i) (w.timers.take i)).map (·.1)).map V.ref).length < sizeLine := small (by
          have h1 := (picks_fst (cl := w.clocks) (tas.take i) (w.timers.take i)).length_le
          rw [List.length_map]
          have h2 : (tas.take i).length ≤ i := List.length_take_le _ _
          omega)
        have yes : (Ge03.rings 100 (nowOf w.clocks t) t).2.isSome = true → upd H6f st (.lst (((picks w.clocks (tas.take i) (w.timers.take i)).map (·.1)).map V.ref ++ [.ref a])) st = some (.lst (((picks w.clocks (tas.take (i + 1)) (w.timers.take (i + 1))).map (·.1)).map V.ref)) := fun c => by
          rw [upd_same, pk]
          cases e : (Ge03.rings 100 (nowOf w.clocks t) t).2 with
          | none => rw [e] at c; cases c
          | some u =>
            rw [List.map_append, List.map_append]
            rfl
        have no : ¬ (Ge03.rings 100 (nowOf w.clocks t) t).2.isSome = true → picks w.clocks (tas.take (i + 1)) (w.timers.take (i + 1)) = picks w.clocks (tas.take i) (w.timers.take i) := fun c => by
          rw [pk]
          cases e : (Ge03.rings 100 (nowOf w.clocks t) t).2 with
          | none => simp
          | some u => rw [e] at c; exact absurd rfl c
        have iff := stays_iff tn
        have nsr6 : r ≠ st := nsr.symm
        have s7 : Same H0 (upd H6f st (.lst (((picks w.clocks (tas.take i) (w.timers.take i)).map (·.1)).map V.ref ++ [.ref a]))) := same_stored s6 st0
        -- if timer.again > 0 or len(dues) == 0: staying.append(timer)
        refine ⟨_, rfl, a, CT, dt6, _, _, rfl, hta6, T.clT, T.t4, tF_again _, _, _, rfl, rfl, _, rfl, ?_⟩
        by_cases c1 : 0 < t.again
        · refine if_true_of (decide_eq_true (by rw [af3]; omega)) (iteT ?_)
          refine ⟨_, rfl, .inl ⟨rfl, _, SqL.of (X6.s _ _ hS6)⟩, _, rfl, st, _, _, rfl, rfl, X6.s _ _ hS6, lenS, ?_⟩
          refine ⟨some (.ref a), some (.ref ca), some (.ref q), _, R ++ R2, rfl, hlt, s7, (upd_ne nsr6).trans hR6, yes (iff.mpr (.inl c1)), t6.put hS6, X6.put (.inl ⟨_, hS6⟩)⟩
        · refine if_false_of (decide_eq_false (by rw [af3]; omega)) ?_
          refine ⟨_, rfl, q, _, rfl, .inl (SqL.of (X6.s _ _ hq6)), rfl, _, rfl, ?_⟩
          by_cases c2 : (Ge03.rings 100 (nowOf w.clocks t) t).1 = 0
          · refine if_true_of (decide_eq_true (by rw [vN_len, dl, c2]; rfl)) ?_
            refine ⟨_, rfl, .inl ⟨rfl, _, SqL.of (X6.s _ _ hS6)⟩, _, rfl, st, _, _, rfl, rfl, X6.s _ _ hS6, lenS, ?_⟩
            refine ⟨some (.ref a), some (.ref ca), some (.ref q), _, R ++ R2, rfl, hlt, s7, (upd_ne nsr6).trans hR6, yes (iff.mpr (.inr c2)), t6.put hS6, X6.put (.inl ⟨_, hS6⟩)⟩
          · refine if_false_of (decide_eq_false fun z => c2 (by rw [vN_len, dl] at z; injection z with z; omega)) ?_
            refine ⟨some (.ref a), some (.ref ca), some (.ref q), _, R ++ R2, rfl, hlt, s6, hR6, by rw [no (fun z => by rcases iff.mp z with q | q; exact c1 q; exact c2 q)]; exact hS6, t6, X6⟩
    · rintro σ H' ⟨v3, v4, v5, Hf, R, rfl, hil, sf, hR, hS, h3, X2⟩
      have el : (tas.map V.ref).length = w.timers.length := by rw [List.length_map, X.tm.len]
      rw [el, List.take_length] at hS h3
      rw [el, midT_all] at X2
      have et : tas.take w.timers.length = tas := by rw [← X.tm.len, List.take_length]
      rw [et] at hS
      obtain ⟨ngr, nlr, _, _, _⟩ := X2.apart (p := r) (.inl ⟨_, hR⟩)
      obtain ⟨ngs, nls, _, ncs, nts⟩ := X2.apart (p := st) (.inl ⟨_, hS⟩)
      -- self.timers = staying
      refine ⟨_, rfl, _, rfl, g, CG, dx, _, rfl, X2.hg, T.clG, T.g7, (by show 8 < 1000; decide), ?_⟩
      rw [gF_putTimers]
      have l0 := sl w.timers.length
      rw [List.take_length] at l0
      -- return sorted(rings)
      refine ⟨_, rfl, r, R, fun x => (rd Hf x).getD (0, 0, 0), rfl, SqL.of ((upd_ne ngr.symm).trans (X2.s _ _ hR)), fun x hx => ?_, fun ys p hsrt hperm hp => ?_⟩
      · obtain ⟨p3, _, e⟩ := h3.each hx
        obtain ⟨t, rfl, ht⟩ := rd_is e
        refine ⟨t, rfl, ?_⟩
        have ntg : t ≠ g := fun z => by rw [z, X2.g0] at ht; cases ht
        dsimp only
        rw [upd_ne ntg, e]
        exact X2.s _ _ ht
      · obtain ⟨L, hT, hL, hll⟩ := sorted_rung ck (fun t ht => (htm t ht).1) h3 hperm hsrt
        have X3 : GX CG CC CT (less Hf st) (upd H' g (.ins CG dx (gF { w with timers := w.timers.map (af w.clocks) } lc st))) g dx lc st cas ((picks w.clocks tas w.timers).map (·.1)) { w with timers := stays w.clocks w.timers } := by
          obtain ⟨n1, n2⟩ := X2.g_ne
          refine ⟨same_stored (less_same.trans X2.s) (less_same.free X2.g0), less_same.free X2.g0, upd_same, less_same.free X2.lc0, (upd_ne n1).trans X2.hc, less_at, (upd_ne ngs.symm).trans (X2.s _ _ hS), nls, ?_, ?_⟩
          · exact (X2.cl.weak less_same).others fun a ha => (X2.cas_ne ha).1
          · exact picks_objs ((X2.tm.weak less_same).others fun a ha => (X2.tas_ne ha).1)
        have p0 : H0 p = none := by
          obtain ⟨_, h2⟩ := fresh hp
          exact (sf.trans X2.s).free h2
        have s0 : Same H0 (less Hf st) := fun b o e => by
          have nb : b ≠ st := fun z => by rw [z, st0] at e; cases e
          rw [less_ne nb]
          exact sf b o e
        have pl : less Hf st p = none := X3.s.free hp
        refine k _ _ p ys L (s0.trans (same_new pl)) p0 upd_same ?_ hL (by omega) ⟨dx, lc, st, cas, _, X3.put (.inr hp)⟩
        refine hT.moved fun t a b c e => ?_
        have n1 : t ≠ st := fun z => by rw [z, hS] at e; cases e
        have e2 : less Hf st t = some (.tup [.int a, .int b, .int c]) := (less_ne n1).trans e
        have n2 : t ≠ p := ne_of_none e2 pl
        rw [upd_ne n2]
        exact e2
end
end Tk

namespace Tk
open PySem PySem.Spec PyProof.Rows L2
def spTick (CG CC CT : Addr) : Sp := fun vs H Q _ => ∃ (H0 : Hp) (g : Addr) (w : GWorld), vs = [.ref g] ∧ GameAt CG CC CT H0 H g w ∧ Ok w ∧
  ∀ (H1 H' : Hp) (p : Addr), Same H0 H1 → H0 p = none → H1 p = some (.lst (vN (flat3 (told1 w)))) → GameAt CG CC CT H1 H' g (ticked w) → Q (.ref p) H'
section
variable {P : Program} {w : World} {K : PySem.W.Frag} {mg : Str → Option Value} {base : Heap} {CG CC CT : Addr}
def tell (n : Nat) (q : Nat × Nat × Nat) : Nat × Nat × Nat := (n, q.2.2, q.2.1)
theorem told_L {w : GWorld} {L : List (Nat × Nat × Nat)} (h : L.map back = rang w) : told1 w = L.map (tell (w.ticks + 1)) := by
  unfold told1
  rw [← h, List.map_map]
  rfl
theorem scTk : FnScope ["self", "told", "ring"] ["self"] (defScope sTick) := ⟨rfl, rfl, rfl, by decide +kernel, rfl, by decide +kernel, by decide +kernel⟩
theorem ok_tick {f fM fR : Addr} {fd fdM fdR : FuncData} (F : Fun K "tick" "Game.tick" sTick f fd) (T : Txt K mg CG CC CT) (GM : FnOk P w K mg base CX0 2 fM fdM ["clocks"] (spMove CC)) (bM : Binds K fdM ["clocks"] []) (mgM : mg "move_clocks" = some (.ref fM)) (kpM : PySem.W.keepIn K (.ref fM) = true)
    (GR : FnOk P w K mg base CX0 2 fR fdR ["self"] (spRings CG CC CT)) (bR : Binds K fdR ["self"] []) (mR : Meth K CG "take_rings" fR) :
    FnOk P w K mg base CX0 3 f fd ["self"] (spTick CG CC CT) := by
  refine F.ok scTk (fun vs H Q E h => ?_) (fun cdv A outer s H vs Q E hr h => ?_)
  · obtain ⟨H0, g, w, rfl, _⟩ := h
    rfl
  · obtain ⟨H0, g, w, rfl, ⟨dx, lc, lt, cas, tas, X⟩, ok, k⟩ := h
    refine ⟨_, pss_cons (ps_fldaug (pv 0) pe_int in_add) (pss_cons (ps_expr (pe_call GM hr rfl mgM kpM bM .nil pass0 (pa_cons (pe_fld (pv 0) rfl) pa_nil))) (pss_cons (ps_set (i := 1) scTk.nd rfl (Or.inl rfl) (pe_lst pa_nil))
      (pss_cons (ps_for PassesOwn.never rfl (pi_list (pe_meth0 (pv 0) T.clG mR GR hr bR .nil pass0)) (pg_name (i := 2) scTk.nd rfl (Or.inl rfl))
        (pss_one (ps_expr (pe_bm PySem.F.plainAttrs_list PySem.F.slot_list_extend PySem.F.type_list_extend mt_extend (pv 1) (pa_cons (pe_lst (pa_cons (pe_fld (pv 0) rfl) (pa_cons (pe_ix ix_tup (pv 2) pe_int (fun _ _ => rfl)) (pa_cons (pe_ix ix_tup (pv 2) pe_int (fun _ _ => rfl)) pa_nil)))) pa_nil)))))
      (pss_one (ps_ret (pv 1)))))), ?_⟩
    refine ⟨_, rfl, g, CG, dx, _, _, rfl, X.hg, T.clG, T.g4, gF_ticks _ _ _, _, _, rfl, rfl, dx, _, X.hg, (by show 8 < 1000; decide), ?_⟩
    have e0 : (w.ticks : Int) + 1 = ((w.ticks + 1 : Nat) : Int) := by omega
    dsimp only
    rw [e0, gF_putTicks]
    have X1 : GX CG CC CT H0 _ g dx lc lt cas tas { w with ticks := w.ticks + 1 } := X.setG rfl rfl
    refine ⟨_, rfl, g, CG, dx, _, _, rfl, X1.hg, T.clG, T.g6, gF_clocks _ _ _, lc, cas, w.clocks, rfl, X1.hc, X1.clocks, ok.ck, ok.c6, fun H2 O2 kp2 => ?_⟩
    have R2 : GameAt CG CC CT H0 H2 g _ := ⟨dx, lc, lt, cas, tas, X1.moved O2 kp2⟩
    refine ⟨Nat.zero_le _, fun p hp => ?_⟩
    have p0 : H0 p = none := R2.same.free hp
    have R3 := R2.put (p := p) (o := .lst []) (.inr hp)
    obtain ⟨dx3, lc3, lt3, cas3, tas3, X3⟩ := id R3
    refine ⟨_, rfl, g, dx3, _, rfl, X3.hg, gF_no _ _ _ (by decide +kernel), _, g, _, rfl, R3, ct_ok ok.ck, ok.t12, fun t ht => ⟨?_, now_lt ok ht⟩, fun H4f H4 p2 ys L s4 p20 hp2 t3 hL hll R4 => ?_⟩
    · show t.clock < (Ge03.clocksTick w.clocks).1.length
      rw [ct_len ok.ck]
      exact (ok.tm.ok t ht).1
    have hp4 : H4f p = some (.lst []) := s4 _ _ upd_same
    have tl := told_L (w := w) hL
    have s04 : Same H0 H4f := (same_new p0).trans s4
    refine ⟨p2, rfl, ⟨_, SqL.of (R4.same _ _ hp2)⟩, for_list (K := K) (a := p2) (xs := ys) (fun i σ H' => ∃ (v : Option V) (Hf : Hp), σ = [some (.ref g), some (.ref p), v] ∧ (∀ b o, b ≠ p → H4f b = some o → Hf b = some o) ∧ Hf p = some (.lst (vN (flat3 ((L.take i).map (tell (w.ticks + 1)))))) ∧ GameAt CG CC CT Hf H' g (ticked w))
      ⟨none, H4f, rfl, fun _ _ _ e => e, hp4, R4⟩ (fun i σ H' _ ⟨_, Hf, _, kf, _, R5⟩ => SqL.of (R5.same _ _ (kf _ _ (fun z => by rw [z, upd_same] at p20; cases p20) hp2))) ?_ ?_⟩
    · rintro i y σ H' hi ⟨v, Hf, rfl, kf, hpf, R5⟩
      obtain ⟨q, hq, e⟩ := t3.at_ hi
      obtain ⟨t, rfl, ht⟩ := rd_is e
      have ntp : t ≠ p := ne_of ht hp4 (fun z => nomatch z)
      have htf := R5.same _ _ (kf _ _ ntp ht)
      obtain ⟨dx5, lc5, lt5, cas5, tas5, X5⟩ := id R5
      have hil : i < L.length := (List.getElem?_eq_some_iff.mp hq).1
      refine ⟨_, rfl, .inl ⟨rfl, _, SqL.of (R5.same _ _ hpf)⟩, _, rfl, g, CG, dx5, _, _, rfl, X5.hg, T.clG, T.g4, gF_ticks _ _ _, _, rfl, t, _, _, _, rfl, rfl, SqT.of htf, rfl, _, rfl, t, _, _, _, rfl, rfl, SqT.of htf, rfl, (by show 3 ≤ sizeLine; decide), fun z hz => ?_⟩
      have npz : p ≠ z := ne_of_none (R5.same _ _ hpf) hz
      have fl := flat3_len ((L.take i).map (tell (w.ticks + 1)))
      rw [List.length_map, List.length_take] at fl
      refine ⟨p, z, _, _, rfl, rfl, (upd_ne npz).trans (R5.same _ _ hpf), upd_same, Nat.le_of_lt (small (by rw [vN_len, fl]; show _ + 3 ≤ _; omega)), ?_⟩
      have R6 := R5.put (p := z) (o := .lst [V.int ((w.ticks + 1 : Nat) : Int), V.int (c3 q).2.2, V.int (c3 q).2.1]) (.inr hz)
      have hp6 := (upd_ne (o := .lst [V.int ((w.ticks + 1 : Nat) : Int), V.int (c3 q).2.2, V.int (c3 q).2.1]) npz).trans hpf
      have R7 := R6.put (p := p) (o := .lst (vN (flat3 ((L.take i).map (tell (w.ticks + 1)))) ++ [V.int ((w.ticks + 1 : Nat) : Int), V.int (c3 q).2.2, V.int (c3 q).2.1])) (.inl ⟨_, hp6⟩)
      refine ⟨_, _, rfl, fun b o nb e => ?_, ?_, R7⟩
      · have nz : b ≠ z := ne_of_none (R5.same _ _ (kf b o nb e)) hz
        rw [upd_ne nb, upd_ne nz]
        exact kf b o nb e
      · rw [upd_same, take_more hq, List.map_append, flat3_app, vN_app]
        rfl
    · rintro σ H' ⟨v, Hf, rfl, kf, hpf, R5⟩
      rw [t3.len, List.take_length, ← tl] at hpf
      refine ⟨_, rfl, k Hf H' p (fun b o e => ?_) p0 hpf R5⟩
      have nb : b ≠ p := fun z => by rw [z, p0] at e; cases e
      exact kf b o nb (s04 b o e)
end
end Tk

namespace Tk
open PySem PySem.Spec PyProof.Rows L2
abbrev pBegin : Nat := 31
abbrev pFrame : Nat := 32
abbrev pAddC : Nat := 33
abbrev pSpeed : Nat := 34
abbrev pAddT : Nat := 35
abbrev sBegin : Stmt := top pBegin
abbrev sFrame : Stmt := top pFrame
abbrev sAddC : Stmt := top pAddC
abbrev sSpeed : Stmt := top pSpeed
abbrev sAddT : Stmt := top pAddT
theorem smallM {n : Nat} (h : n ≤ 16000000) : n < sizeLine := by
  show n < 2 ^ 24
  omega
def vI (l : List Int) : List V := l.map V.int
theorem vI_ints (l : List Nat) : vI (Ge03.ints l) = vN l := by
  unfold vI vN Ge03.ints
  rw [List.map_map]
  rfl
/-- what a call gives: a new list with its answer, the game as it is then -/
def Gives (CG CC CT : Addr) (H0 : Hp) (g : Addr) (r : GWorld × List Int) (Q : VK) : Prop := ∀ (H1 H' : Hp) (p : Addr), Same H0 H1 → H0 p = none → H1 p = some (.lst (vI r.2)) → GameAt CG CC CT H1 H' g r.1 → Q (.ref p) H'
theorem Gives.new {CG CC CT : Addr} {H0 H : Hp} {g : Addr} {w : GWorld} {l : List Int} {Q : VK} (k : Gives CG CC CT H0 g (w, l) Q) (R : GameAt CG CC CT H0 H g w) {p : Addr} (hp : H p = none) {l' : List V} (e : l' = vI l) : Q (.ref p) (upd H p (.lst l')) := by
  subst e
  exact k _ _ p (same_new (R.same.free hp)) (R.same.free hp) upd_same (R.put (.inr hp))
def spCall1 (CG CC CT : Addr) (c : Nat → Ge03.Call) : Sp := fun vs H Q _ => ∃ (H0 : Hp) (g : Addr) (w : GWorld) (a : Nat), vs = [.ref g, .int (a : Int)] ∧ GameAt CG CC CT H0 H g w ∧ Ok w ∧ Gives CG CC CT H0 g (Ge03.step w (c a)) Q
def spCall2 (CG CC CT : Addr) (c : Nat → Nat → Ge03.Call) : Sp := fun vs H Q _ => ∃ (H0 : Hp) (g : Addr) (w : GWorld) (a b : Nat), vs = [.ref g, .int (a : Int), .int (b : Int)] ∧ GameAt CG CC CT H0 H g w ∧ Ok w ∧ Gives CG CC CT H0 g (Ge03.step w (c a b)) Q
def spCall3 (CG CC CT : Addr) (c : Nat → Nat → Nat → Ge03.Call) : Sp := fun vs H Q _ => ∃ (H0 : Hp) (g : Addr) (w : GWorld) (a b d : Nat), vs = [.ref g, .int (a : Int), .int (b : Int), .int (d : Int)] ∧ GameAt CG CC CT H0 H g w ∧ Ok w ∧ Gives CG CC CT H0 g (Ge03.step w (c a b d)) Q
theorem step_begin_no {w : GWorld} {s m : Nat} (h : s = 0 ∨ 1000 < s ∨ m = 0 ∨ 50 < m) : Ge03.step w (.begins s m) = (w, [-1]) := if_pos h
theorem step_begin {w : GWorld} {s m : Nat} (h : ¬ (s = 0 ∨ 1000 < s ∨ m = 0 ∨ 50 < m)) : Ge03.step w (.begins s m) = ({ Ge03.init with step := s, most := m }, [0]) := if_neg h
section
variable {P : Program} {w : World} {K : PySem.W.Frag} {mg : Str → Option Value} {base : Heap} {CG CC CT : Addr}
theorem scBe : FnScope ["game", "step", "most"] ["game", "step", "most"] (defScope sBegin) := ⟨rfl, rfl, rfl, by decide +kernel, rfl, by decide +kernel, by decide +kernel⟩
theorem ok_begin {f fR : Addr} {fd fdR : FuncData} (F : Fun K "begin" "begin" sBegin f fd) (T : Txt K mg CG CC CT) (GR : FnOk P w K mg base CX0 3 fR fdR ["self", "step", "most"] (spRestart CG CC CT)) (bR : Binds K fdR ["self", "step", "most"] []) (mR : Meth K CG "restart" fR) :
    FnOk P w K mg base CX0 4 f fd ["game", "step", "most"] (spCall2 CG CC CT .begins) := by
  refine F.ok scBe (fun vs H Q E h => ?_) (fun cdv A outer s H vs Q E hr h => ?_)
  · obtain ⟨H0, g, w, a, b, rfl, _⟩ := h
    rfl
  · obtain ⟨H0, g, w, st, mo, rfl, R, ok, k⟩ := h
    refine ⟨_, pss_cons (ps_if (PW.pt (pw_or (pt_cmpR op_lt (pv 1) pe_int (nomark _)) (pw_or (pt_cmpR op_gt (pv 1) (pgi T.hstep) (nomark _)) (pw_or (pt_cmpR op_lt (pv 2) pe_int (nomark _)) (pw_or1 (pt_cmpR op_gt (pv 2) (pgi T.hmost) (nomark _)))))))
        (pss_one (ps_ret (pe_lst (pa_cons (pgi T.oob) pa_nil)))) pss_nil)
      (pss_cons (ps_expr (pe_meth (pv 0) T.clG mR GR hr bR .nil pass0 (pa_cons (pv 1) (pa_cons (pv 2) pa_nil))))
      (pss_one (ps_ret (pe_lst (pa_cons pe_int pa_nil))))), ?_⟩
    have no : (st = 0 ∨ 1000 < st ∨ mo = 0 ∨ 50 < mo) → ∀ p, H p = none → Q (.ref p) (upd H p (.lst [.int (-1)])) := fun c p hp => by
      rw [step_begin_no c] at k
      exact k.new R hp rfl
    have sz : (1 : Nat) ≤ sizeLine := by decide
    refine ⟨_, rfl, _, _, rfl, rfl, _, rfl, ?_⟩
    by_cases c1 : st = 0
    · exact if_true_of (decide_eq_true (by omega)) (iteT ⟨sz, no (.inl c1)⟩)
    refine if_false_of (decide_eq_false (by omega)) ?_
    refine ⟨_, rfl, _, _, rfl, rfl, _, rfl, ?_⟩
    by_cases c2 : 1000 < st
    · exact if_true_of (decide_eq_true (by omega)) (iteT ⟨sz, no (.inr (.inl c2))⟩)
    refine if_false_of (decide_eq_false (by omega)) ?_
    refine ⟨_, rfl, _, _, rfl, rfl, _, rfl, ?_⟩
    by_cases c3 : mo = 0
    · exact if_true_of (decide_eq_true (by omega)) (iteT ⟨sz, no (.inr (.inr (.inl c3)))⟩)
    refine if_false_of (decide_eq_false (by omega)) ?_
    refine ⟨_, rfl, _, _, rfl, rfl, _, rfl, ?_⟩
    by_cases c4 : 50 < mo
    · exact if_true_of (decide_eq_true (by omega)) ⟨sz, no (.inr (.inr (.inr c4)))⟩
    refine if_false_of (decide_eq_false (by omega)) ?_
    rw [step_begin (by omega)] at k
    obtain ⟨dx, lc, lt, cas, tas, X⟩ := id R
    refine ⟨_, rfl, g, dx, _, rfl, X.hg, gF_no _ _ _ (by decide +kernel), _, rfl, _, rfl, H0, g, dx, _, st, mo, rfl, X.s, X.g0, X.hg, .inr ⟨_, _, _, rfl⟩, fun H2 R2 => ?_⟩
    exact ⟨sz, fun p hp => k.new R2 hp rfl⟩
theorem scFr : FnScope ["game", "parts", "ticks", "last", "told"] ["game", "parts"] (defScope sFrame) := ⟨rfl, rfl, rfl, by decide +kernel, rfl, by decide +kernel, by decide +kernel⟩
theorem ok_frame {f fP fT : Addr} {fd fdP fdT : FuncData} (F : Fun K "pass_frame" "pass_frame" sFrame f fd) (T : Txt K mg CG CC CT) (GP : FnOk P w K mg base CX0 1 fP fdP ["self", "parts"] (spParts CG CC CT)) (bP : Binds K fdP ["self", "parts"] []) (mP : Meth K CG "take_parts" fP)
    (GT : FnOk P w K mg base CX0 3 fT fdT ["self"] (spTick CG CC CT)) (bT : Binds K fdT ["self"] []) (mT : Meth K CG "tick" fT) :
    FnOk P w K mg base CX0 4 f fd ["game", "parts"] (spCall1 CG CC CT .frame) := by
  refine F.ok scFr (fun vs H Q E h => ?_) (fun cdv A outer s H vs Q E hr h => ?_)
  · obtain ⟨H0, g, w, a, rfl, _⟩ := h
    rfl
  · obtain ⟨H0, g, w, d, rfl, R, ok, k⟩ := h
    have hr1 : Room 1 _ := hr.mono (by decide)
    refine ⟨_, pss_cons (ps_if (pt_cmpR op_gt (pv 1) (pgi T.hparts) (nomark _)) (pss_one (ps_ret (pe_lst (pa_cons (pgi T.oob) pa_nil)))) pss_nil)
      (pss_cons (ps_set (i := 2) scFr.nd rfl (Or.inl rfl) (pe_meth (pv 0) T.clG mP GP hr1 bP .nil pass0 (pa_cons (pv 1) pa_nil)))
      (pss_cons (ps_set (i := 3) scFr.nd rfl (Or.inl rfl) (pe_op op_add (pe_fld (pv 0) rfl) (pv 2)))
      (pss_cons (ps_set (i := 4) scFr.nd rfl (Or.inl rfl) (pe_lst pa_nil))
      (pss_cons (ps_while PassesOwn.never (pt_cmpR op_lt (pe_fld (pv 0) rfl) (pv 3) (nomark _))
        (pss_one (ps_expr (pe_bm PySem.F.plainAttrs_list PySem.F.slot_list_extend PySem.F.type_list_extend mt_extend (pv 4) (pa_cons (pe_meth0 (pv 0) T.clG mT GT hr bT .nil pass0) pa_nil)))))
      (pss_one (ps_ret (pe_op op_cat (pe_lst (pa_cons (pv 2) (pa_cons (pe_fld (pv 0) rfl) (pa_cons (pe_op op_fdiv (pe_callB call_len_seq (by rfl) T.len PySem.boot_len (pa_cons (pv 4) pa_nil)) pe_int) pa_nil)))) (pv 4)))))))), ?_⟩
    refine ⟨_, rfl, _, _, rfl, rfl, _, rfl, ?_⟩
    by_cases c1 : 100000 < d
    · have e : Ge03.step w (.frame d) = (w, [-1]) := if_pos c1
      rw [e] at k
      exact if_true_of (decide_eq_true (by omega)) ⟨(by decide : (1 : Nat) ≤ sizeLine), fun p hp => k.new R hp rfl⟩
    refine if_false_of (decide_eq_false (by omega)) ?_
    obtain ⟨dx, lc, lt, cas, tas, X⟩ := id R
    have e : Ge03.step w (.frame d) = (let n := (w.rest + d) / w.step
      let k := min n w.most
      let x := Ge03.ticksDone k { w with rest := (w.rest + d) % w.step, lost := w.lost + (n - k) }
      (x.1, Ge03.ints ([k, x.1.rest, x.2.length] ++ x.2.flatMap fun y => [y.1, y.2.1, y.2.2]))) := if_neg c1
    rw [e] at k
    dsimp only at k
    refine ⟨_, rfl, g, dx, _, rfl, X.hg, gF_no _ _ _ (by decide +kernel), _, rfl, H0, g, w, d, rfl, R, ok.s1, ok.s2, fun H2 R2 => ?_⟩
    have en : Nat.min ((w.rest + d) / w.step) w.most = min ((w.rest + d) / w.step) w.most := rfl
    rw [en] at R2 ⊢
    have hk50 : min ((w.rest + d) / w.step) w.most ≤ 50 := Nat.le_trans (Nat.min_le_right _ _) ok.m2
    generalize hkk : min ((w.rest + d) / w.step) w.most = kk at *
    have ok0 : Ok { w with rest := (w.rest + d) % w.step, lost := w.lost + ((w.rest + d) / w.step - kk) } := framed_ok ok _ _
    generalize hw0 : ({ w with rest := (w.rest + d) % w.step, lost := w.lost + ((w.rest + d) / w.step - kk) } : GWorld) = w0 at *
    obtain ⟨dx2, lc2, lt2, cas2, tas2, X2⟩ := id R2
    refine ⟨_, rfl, g, CG, dx2, _, _, rfl, X2.hg, T.clG, T.g4, gF_ticks _ _ _, _, rfl, _, _, rfl, rfl, ?_⟩
    have el : (w0.ticks : Int) + (kk : Int) = ((w0.ticks + kk : Nat) : Int) := by omega
    dsimp only
    rw [el]
    refine ⟨Nat.zero_le _, fun p hp => ?_⟩
    have p0 : H0 p = none := R2.same.free hp
    obtain ⟨tr, _, _, tt, _⟩ := td_rest kk w0 ok0
    have tl := td_len kk ok0
    refine ⟨fun m σ H' => ∃ (w1 : GWorld) (Hf : Hp) (pre : List (Nat × Nat × Nat)), σ = [some (.ref g), some (.int (d : Int)), some (.int (kk : Int)), some (.int ((w0.ticks + kk : Nat) : Int)), some (.ref p)] ∧ Ok w1 ∧ w1.ticks + m = w0.ticks + kk ∧
        Ge03.ticksDone kk w0 = ((Ge03.ticksDone m w1).1, pre ++ (Ge03.ticksDone m w1).2) ∧ Same H0 Hf ∧ Hf p = some (.lst (vN (flat3 pre))) ∧ GameAt CG CC CT Hf H' g w1,
      ⟨kk, w0, upd H0 p (.lst []), [], rfl, ok0, rfl, rfl, same_new p0, upd_same, R2.put (.inr hp)⟩, ?_⟩
    rintro m σ H' ⟨w1, Hf, pre, rfl, ok1, hm, etd, sf, hpf, R3⟩
    obtain ⟨dx3, lc3, lt3, cas3, tas3, X3⟩ := id R3
    refine ⟨_, rfl, g, CG, dx3, _, _, rfl, X3.hg, T.clG, T.g4, gF_ticks _ _ _, _, rfl, _, _, rfl, rfl, _, rfl, ?_⟩
    have lp : pre.length ≤ (Ge03.ticksDone kk w0).2.length := by
      rw [etd, List.length_append]
      omega
    cases m with
    | zero =>
      refine if_false_of (decide_eq_false (by omega)) ?_
      have e1 : (Ge03.ticksDone kk w0).1 = w1 := by rw [etd]; rfl
      have e2 : (Ge03.ticksDone kk w0).2 = pre := by
        rw [etd]
        exact List.append_nil pre
      rw [e1, e2] at k
      rw [e2] at tl
      have fl := flat3_len pre
      have hpH := R3.same _ _ hpf
      refine ⟨_, rfl, _, rfl, g, CG, dx3, _, _, rfl, X3.hg, T.clG, T.g3, gF_rest _ _ _, _, rfl, p, _, rfl, .inl (SqL.of hpH), _, _, rfl, rfl, ⟨by decide, by decide⟩, (by show 3 ≤ sizeLine; decide), fun z hz => ?_⟩
      have npz : p ≠ z := ne_of_none hpH hz
      refine ⟨_, rfl, z, p, _, _, rfl, rfl, upd_same, (upd_ne npz).trans hpH, Nat.le_of_lt (smallM (by rw [vN_len, fl]; show 3 + _ ≤ _; omega)), fun y hy => ?_⟩
      have R4 := R3.put (p := z) (o := .lst [V.int (kk : Int), V.int (w1.rest : Int), V.int (((vN (flat3 pre)).length : Int) / 3)]) (.inr hz)
      have k2 : Gives CG CC CT (upd Hf z (.lst [V.int (kk : Int), V.int (w1.rest : Int), V.int (((vN (flat3 pre)).length : Int) / 3)])) g (w1, Ge03.ints ([kk, w1.rest, pre.length] ++ pre.flatMap fun y => [y.1, y.2.1, y.2.2])) Q := fun H5 H6 q s5 q5 hq R5 => by
        have s6 : Same H0 H5 := (sf.trans (same_new (R3.same.free hz))).trans s5
        exact k H5 H6 q s6 ((sf.trans (same_new (R3.same.free hz))).free q5) hq R5
      refine k2.new R4 hy ?_
      rw [vI_ints, vN_app]
      have e3 : (((vN (flat3 pre)).length : Nat) : Int) / 3 = ((pre.length : Nat) : Int) := by
        rw [vN_len, fl]
        omega
      show [V.int (kk : Int), V.int (w1.rest : Int), V.int ((((vN (flat3 pre)).length : Nat) : Int) / 3)] ++ vN (flat3 pre) = _
      rw [e3]
      rfl
    | succ m =>
      refine if_true_of (decide_eq_true (by omega)) ⟨_, fun σ' H' h => h, ?_⟩
      refine ⟨_, rfl, .inl ⟨rfl, _, SqL.of (R3.same _ _ hpf)⟩, _, rfl, g, dx3, _, rfl, X3.hg, gF_no _ _ _ (by decide +kernel), Hf, g, w1, rfl, R3, ok1, fun H4f H4 q s4 q0 hq R4 => ?_⟩
      have fl := flat3_len pre
      have fl2 := flat3_len (told1 w1)
      have r1 := rang_len ok1
      have r2 : (told1 w1).length = (rang w1).length := List.length_map _
      refine ⟨p, q, _, _, rfl, rfl, R4.same _ _ (s4 _ _ hpf), R4.same _ _ hq, Nat.le_of_lt (smallM (by rw [vN_len, vN_len, fl, fl2]; omega)), ?_⟩
      refine ⟨m, Nat.lt_succ_self m, ticked w1, _, pre ++ told1 w1, rfl, ticked_ok ok1, ?_, ?_, same_stored (sf.trans s4) p0, ?_, R4.put (.inl ⟨_, s4 _ _ hpf⟩)⟩
      · show w1.ticks + 1 + m = _
        omega
      · rw [etd, td_succ ok1, List.append_assoc]
      · rw [upd_same, flat3_app, vN_app]
end
end Tk

namespace Tk
open PySem PySem.Spec PyProof.Rows L2
section
variable {CG CC CT : Addr} {H0 H : Hp} {g dx lc lt : Addr} {cas tas : List Addr} {w : GWorld}
theorem Objs.snoc {α : Type} {C : Addr} {f : α → List (Str × V)} {as : List Addr} {xs : List α} (h : Objs C f H0 H as xs) {a d : Addr} {x : α} (na : a ∉ as) (f0 : H0 a = none) (ha : H a = some (.ins C d (f x))) : Objs C f H0 H (as ++ [a]) (xs ++ [x]) := by
  refine ⟨by rw [List.length_append, List.length_append, h.len]; rfl, ?_, fun b hb => ?_, fun i b y hi hy => ?_⟩
  · rw [List.nodup_append]
    refine ⟨h.nd, by simp, fun p hp q hq => ?_⟩
    rw [List.mem_singleton.mp hq]
    exact fun z => na (z ▸ hp)
  · rcases List.mem_append.mp hb with q | q
    · exact h.free b q
    · rw [List.mem_singleton.mp q]
      exact f0
  · rcases Nat.lt_or_ge i as.length with q | q
    · rw [List.getElem?_append_left q] at hi
      rw [List.getElem?_append_left (by rw [← h.len]; exact q)] at hy
      exact h.at_ i b y hi hy
    · rw [List.getElem?_append_right q] at hi
      rw [List.getElem?_append_right (by rw [← h.len]; exact q), ← h.len] at hy
      have e : i - as.length = 0 := by
        have := (List.getElem?_eq_some_iff.mp hi).1
        simp at this; omega
      rw [e] at hi hy
      cases hi
      cases hy
      exact ⟨d, ha⟩
/-- a new instance stands aside -/
theorem GX.made (h : GX CG CC CT H0 H g dx lc lt cas tas w) {x d : Addr} {o u : HO} (nx : H x = none) (nd : H d = none) (ne : d ≠ x) : GX CG CC CT H0 (upd (upd H d o) x u) g dx lc lt cas tas w := by
  have h1 := h.put (p := d) (o := o) (.inr nd)
  have nx' : upd H d o x = none := by rw [upd_ne ne.symm]; exact nx
  have h2 := h1.put (p := x) (o := u) (.inr nx')
  exact h2.weak ((same_new (h.s.free nd)).trans (same_new (by rw [upd_ne ne.symm]; exact h.s.free nx)))
theorem GX.addClock (h : GX CG CC CT H0 H g dx lc lt cas tas w) {x d : Addr} {c : GClock} (x0 : H0 x = none) (nx : x ∉ cas) (hx : H x = some (.ins CC d (cF c))) :
    GX CG CC CT H0 (upd H lc (.lst ((cas ++ [x]).map V.ref))) g dx lc lt (cas ++ [x]) tas { w with clocks := w.clocks ++ [c] } := by
  obtain ⟨n1, n2⟩ := h.g_ne
  have nxl : x ≠ lc := ne_of hx h.hc (fun z => nomatch z)
  refine ⟨same_stored h.s h.lc0, h.g0, (upd_ne n1.symm).trans h.hg, h.lc0, upd_same, h.lt0, (upd_ne h.ne.symm).trans h.ht, h.ne, ?_, h.tm.others fun a ha => (h.tas_ne ha).2.1⟩
  exact (h.cl.others fun a ha => (h.cas_ne ha).2.1).snoc nx x0 ((upd_ne nxl).trans hx)
theorem GX.addTimer (h : GX CG CC CT H0 H g dx lc lt cas tas w) {x d : Addr} {t : GTimer} (x0 : H0 x = none) (nx : x ∉ tas) (hx : H x = some (.ins CT d (tF t))) :
    GX CG CC CT H0 (upd H lt (.lst ((tas ++ [x]).map V.ref))) g dx lc lt cas (tas ++ [x]) { w with timers := w.timers ++ [t] } := by
  obtain ⟨n1, n2⟩ := h.g_ne
  have nxl : x ≠ lt := ne_of hx h.ht (fun z => nomatch z)
  refine ⟨same_stored h.s h.lt0, h.g0, (upd_ne n2.symm).trans h.hg, h.lc0, (upd_ne h.ne).trans h.hc, h.lt0, upd_same, h.ne, h.cl.others fun a ha => (h.cas_ne ha).2.2.1, ?_⟩
  exact (h.tm.others fun a ha => (h.tas_ne ha).2.2.1).snoc nx x0 ((upd_ne nxl).trans hx)
end
theorem getD_none {α : Type} {l : List α} {n : Nat} : (l[n]?).isNone = true ↔ ¬ n < l.length := by
  rw [Option.isNone_iff_eq_none, List.getElem?_eq_none_iff]
  omega
section
variable {P : Program} {w : World} {K : PySem.W.Frag} {mg : Str → Option Value} {base : Heap} {CG CC CT : Addr}
theorem scAC : FnScope ["game", "on", "speed", "number"] ["game", "on", "speed"] (defScope sAddC) := ⟨rfl, rfl, rfl, by decide +kernel, rfl, by decide +kernel, by decide +kernel⟩
theorem ok_addC {f fH fI : Addr} {fd fdH fdI : FuncData} (F : Fun K "add_clock" "add_clock" sAddC f fd) (T : Txt K mg CG CC CT) (GH : FnOk P w K mg base CX0 1 fH fdH ["self", "number"] (spHas CG CC CT)) (bH : Binds K fdH ["self", "number"] []) (mH : Meth K CG "has_clock" fH)
    (M : Mk K CC fI) (GI : FnOk P w K mg base CX0 1 fI fdI ["self", "hangs_on", "speed"] (spCInit CC)) (bI : Binds K fdI ["self", "hangs_on", "speed"] []) :
    FnOk P w K mg base CX0 3 f fd ["game", "on", "speed"] (spCall2 CG CC CT .clock) := by
  refine F.ok scAC (fun vs H Q E h => ?_) (fun cdv A outer s H vs Q E hr h => ?_)
  · obtain ⟨H0, g, w, a, b, rfl, _⟩ := h
    rfl
  · obtain ⟨H0, g, w, o, sp, rfl, R, ok, k⟩ := h
    have hr1 : Room 1 _ := hr.mono (by decide)
    refine ⟨_, pss_cons (ps_if (pt_cmpR op_gt (pv 2) (pgi T.hspeed) (nomark _)) (pss_one (ps_ret (pe_lst (pa_cons (pgi T.oob) pa_nil)))) pss_nil)
      (pss_cons (ps_if (pt_not (pt_val (pe_meth (pv 0) T.clG mH GH hr1 bH .nil pass0 (pa_cons (pv 1) pa_nil)))) (pss_one (ps_ret (pe_lst (pa_cons (pgi T.nsc) pa_nil)))) pss_nil)
      (pss_cons (ps_if (pt_cmpR op_ge (pe_callB call_len_seq (by rfl) T.len PySem.boot_len (pa_cons (pe_fld (pv 0) rfl) pa_nil)) (pgi T.cmost) (nomark _)) (pss_one (ps_ret (pe_lst (pa_cons (pgi T.tooM) pa_nil)))) pss_nil)
      (pss_cons (ps_set (i := 3) scAC.nd rfl (Or.inl rfl) (pe_callB call_len_seq (by rfl) T.len PySem.boot_len (pa_cons (pe_fld (pv 0) rfl) pa_nil)))
      (pss_cons (ps_expr (pe_bm PySem.F.plainAttrs_list PySem.F.slot_list_append PySem.F.type_list_append mt_append (pe_fld (pv 0) rfl) (pa_cons (pe_make M GI hr rfl T.mgC bI .nil pass0 (pa_cons (pv 1) (pa_cons (pv 2) pa_nil))) pa_nil)))
      (pss_one (ps_ret (pe_lst (pa_cons (pv 3) pa_nil)))))))), ?_⟩
    have sz : (1 : Nat) ≤ sizeLine := by decide
    refine ⟨_, rfl, _, _, rfl, rfl, _, rfl, ?_⟩
    by_cases c1 : 200 < sp
    · have e : Ge03.step w (.clock o sp) = (w, [-1]) := if_pos c1
      rw [e] at k
      exact if_true_of (decide_eq_true (by omega)) ⟨sz, fun p hp => k.new R hp rfl⟩
    refine if_false_of (decide_eq_false (by omega)) ?_
    obtain ⟨dx, lc, lt, cas, tas, X⟩ := id R
    refine ⟨_, rfl, g, dx, _, rfl, X.hg, gF_no _ _ _ (by decide +kernel), _, rfl, H0, g, w, o, rfl, R, _, rfl, ?_⟩
    by_cases c2 : o < w.clocks.length
    case neg =>
      have e : Ge03.step w (.clock o sp) = (w, [-2]) := by
        show (if 200 < sp then _ else if (Ge03.clockOf w o).isNone = true then _ else _) = _
        rw [if_neg c1, ok.clockOf, if_pos (getD_none.mpr c2)]
      rw [e] at k
      exact if_true_of (by rw [decide_eq_false c2]; rfl) ⟨sz, fun p hp => k.new R hp rfl⟩
    refine if_false_of (by rw [decide_eq_true c2]; rfl) ?_
    have hlen : ((cas.map V.ref).length : Int) = ((w.clocks.length : Nat) : Int) := by rw [List.length_map, X.cl.len]
    refine ⟨_, rfl, g, CG, dx, _, _, rfl, X.hg, T.clG, T.g6, gF_clocks _ _ _, lc, _, rfl, .inl (SqL.of X.hc), _, _, rfl, rfl, _, rfl, ?_⟩
    by_cases c3 : 6 ≤ w.clocks.length
    · have e : Ge03.step w (.clock o sp) = (w, [-5]) := by
        show (if 200 < sp then _ else if (Ge03.clockOf w o).isNone = true then _ else if 6 ≤ w.clocks.length then _ else _) = _
        rw [if_neg c1, ok.clockOf, if_neg (fun z => getD_none.mp z c2), if_pos c3]
      rw [e] at k
      exact if_true_of (decide_eq_true (by rw [hlen]; omega)) ⟨sz, fun p hp => k.new R hp rfl⟩
    refine if_false_of (decide_eq_false (by rw [hlen]; omega)) ?_
    have e : Ge03.step w (.clock o sp) = ({ w with clocks := w.clocks ++ [⟨w.clocks.length, o + 1, sp, 0, 0⟩] }, Ge03.ints [w.clocks.length]) := by
      show (if 200 < sp then _ else if (Ge03.clockOf w o).isNone = true then _ else if 6 ≤ w.clocks.length then _ else _) = _
      rw [if_neg c1, ok.clockOf, if_neg (fun z => getD_none.mp z c2), if_neg c3]
    rw [e] at k
    refine ⟨_, rfl, g, CG, dx, _, _, rfl, X.hg, T.clG, T.g6, gF_clocks _ _ _, lc, _, rfl, .inl (SqL.of X.hc), ?_⟩
    refine ⟨_, rfl, g, CG, dx, _, _, rfl, X.hg, T.clG, T.g6, gF_clocks _ _ _, .inl ⟨rfl, _, SqL.of X.hc⟩, _, rfl, _, rfl, ?_⟩
    intro x d nx nd ne
    refine ⟨x, d, o + 1, sp, rfl, upd_same, fun num => ⟨rfl, ?_⟩⟩
    rw [upd_upd]
    have X1 := X.made (o := .own x) (u := .ins CC d (cF ⟨num, o + 1, sp, 0, 0⟩)) nx nd ne
    have nxc : x ∉ cas := fun z => by
      obtain ⟨y, dy, e⟩ := X.cl.mem z
      rw [nx] at e
      cases e
    have X2 := X1.addClock (x := x) (d := d) (c := ⟨w.clocks.length, o + 1, sp, 0, 0⟩) (X.s.free nx) nxc upd_same
    refine ⟨lc, _, _, rfl, rfl, X1.hc, small (by rw [List.length_map, X.cl.len]; omega), ?_⟩
    refine ⟨_, rfl, sz, fun p hp => ?_⟩
    rw [List.map_append] at X2
    refine k.new ⟨dx, lc, lt, _, tas, X2⟩ hp ?_
    rw [hlen]
    rfl
theorem scSp : FnScope ["game", "number", "speed", "clock"] ["game", "number", "speed"] (defScope sSpeed) := ⟨rfl, rfl, rfl, by decide +kernel, rfl, by decide +kernel, by decide +kernel⟩
theorem ok_speed {f fH : Addr} {fd fdH : FuncData} (F : Fun K "change_speed" "change_speed" sSpeed f fd) (T : Txt K mg CG CC CT) (GH : FnOk P w K mg base CX0 1 fH fdH ["self", "number"] (spHas CG CC CT)) (bH : Binds K fdH ["self", "number"] []) (mH : Meth K CG "has_clock" fH) :
    FnOk P w K mg base CX0 2 f fd ["game", "number", "speed"] (spCall2 CG CC CT .speed) := by
  refine F.ok scSp (fun vs H Q E h => ?_) (fun cdv A outer s H vs Q E hr h => ?_)
  · obtain ⟨H0, g, w, a, b, rfl, _⟩ := h
    rfl
  · obtain ⟨H0, g, w, o, sp, rfl, R, ok, k⟩ := h
    refine ⟨_, pss_cons (ps_if (pt_cmpR op_gt (pv 2) (pgi T.hspeed) (nomark _)) (pss_one (ps_ret (pe_lst (pa_cons (pgi T.oob) pa_nil)))) pss_nil)
      (pss_cons (ps_if (pt_not (pt_val (pe_meth (pv 0) T.clG mH GH hr bH .nil pass0 (pa_cons (pv 1) pa_nil)))) (pss_one (ps_ret (pe_lst (pa_cons (pgi T.nsc) pa_nil)))) pss_nil)
      (pss_cons (ps_set (i := 3) scSp.nd rfl (Or.inl rfl) (pe_ix ix_list (pe_fld (pv 0) rfl) (pv 1) (fun _ _ => rfl)))
      (pss_cons (ps_fld (pv 3) (pv 2) rfl)
      (pss_one (ps_ret (pe_lst (pa_cons pe_int pa_nil))))))), ?_⟩
    have sz : (1 : Nat) ≤ sizeLine := by decide
    refine ⟨_, rfl, _, _, rfl, rfl, _, rfl, ?_⟩
    by_cases c1 : 200 < sp
    · have e : Ge03.step w (.speed o sp) = (w, [-1]) := if_pos c1
      rw [e] at k
      exact if_true_of (decide_eq_true (by omega)) ⟨sz, fun p hp => k.new R hp rfl⟩
    refine if_false_of (decide_eq_false (by omega)) ?_
    obtain ⟨dx, lc, lt, cas, tas, X⟩ := id R
    refine ⟨_, rfl, g, dx, _, rfl, X.hg, gF_no _ _ _ (by decide +kernel), _, rfl, H0, g, w, o, rfl, R, _, rfl, ?_⟩
    by_cases c2 : o < w.clocks.length
    case neg =>
      have e : Ge03.step w (.speed o sp) = (w, [-2]) := by
        show (if 200 < sp then _ else if (Ge03.clockOf w o).isNone = true then _ else _) = _
        rw [if_neg c1, ok.clockOf, if_pos (getD_none.mpr c2)]
      rw [e] at k
      exact if_true_of (by rw [decide_eq_false c2]; rfl) ⟨sz, fun p hp => k.new R hp rfl⟩
    refine if_false_of (by rw [decide_eq_true c2]; rfl) ?_
    have e : Ge03.step w (.speed o sp) = ({ w with clocks := w.clocks.map (sped o sp) }, [0]) := by
      show (if 200 < sp then _ else if (Ge03.clockOf w o).isNone = true then _ else _) = _
      rw [if_neg c1, ok.clockOf, if_neg (fun z => getD_none.mp z c2)]
      rfl
    obtain ⟨c, hc⟩ : ∃ c, w.clocks[o]? = some c := ⟨_, List.getElem?_eq_getElem c2⟩
    obtain ⟨ca, hca'⟩ : ∃ ca, cas[o]? = some ca := ⟨_, List.getElem?_eq_getElem (by rw [X.cl.len]; exact c2)⟩
    obtain ⟨dc, hca⟩ := X.cl.at_ o ca c hca' hc
    rw [e, sped_set ok.ck o sp c hc] at k
    refine ⟨_, rfl, g, CG, dx, _, _, rfl, X.hg, T.clG, T.g6, gF_clocks _ _ _, _, rfl, lc, _, (o : Int), _, rfl, rfl, SqL.of X.hc, atI_nat (ref_get hca'), ?_⟩
    refine ⟨_, rfl, _, rfl, ca, CC, dc, _, rfl, hca, T.clC, T.c2, (by show 4 < 1000; decide), ?_⟩
    rw [cF_putS]
    exact ⟨sz, fun p hp => k.new ⟨dx, lc, lt, cas, tas, X.setClock hca'⟩ hp rfl⟩
theorem scAT : FnScope ["game", "on", "behind", "again", "number", "clock"] ["game", "on", "behind", "again"] (defScope sAddT) := ⟨rfl, rfl, rfl, by decide +kernel, rfl, by decide +kernel, by decide +kernel⟩
theorem ok_addT {f fH fI : Addr} {fd fdH fdI : FuncData} (F : Fun K "add_timer" "add_timer" sAddT f fd) (T : Txt K mg CG CC CT) (GH : FnOk P w K mg base CX0 1 fH fdH ["self", "number"] (spHas CG CC CT)) (bH : Binds K fdH ["self", "number"] []) (mH : Meth K CG "has_clock" fH)
    (M : Mk K CT fI) (GI : FnOk P w K mg base CX0 1 fI fdI ["self", "number", "clock", "due", "again"] (spTInit CT)) (bI : Binds K fdI ["self", "number", "clock", "due", "again"] []) :
    FnOk P w K mg base CX0 3 f fd ["game", "on", "behind", "again"] (spCall3 CG CC CT .timer) := by
  refine F.ok scAT (fun vs H Q E h => ?_) (fun cdv A outer s H vs Q E hr h => ?_)
  · obtain ⟨H0, g, w, a, b, d, rfl, _⟩ := h
    rfl
  · obtain ⟨H0, g, w, o, n, a, rfl, R, ok, k⟩ := h
    have hr1 : Room 1 _ := hr.mono (by decide)
    refine ⟨_, pss_cons (ps_if (PW.pt (pw_or (pt_cmpR op_lt (pv 2) pe_int (nomark _)) (pw_or (pt_cmpR op_gt (pv 2) (pgi T.hbehind) (nomark _)) (pw_or1 (pt_cmpR op_gt (pv 3) (pgi T.hagain) (nomark _)))))) (pss_one (ps_ret (pe_lst (pa_cons (pgi T.oob) pa_nil)))) pss_nil)
      (pss_cons (ps_if (pt_not (pt_val (pe_meth (pv 0) T.clG mH GH hr1 bH .nil pass0 (pa_cons (pv 1) pa_nil)))) (pss_one (ps_ret (pe_lst (pa_cons (pgi T.nsc) pa_nil)))) pss_nil)
      (pss_cons (ps_if (pt_cmpR op_ge (pe_callB call_len_seq (by rfl) T.len PySem.boot_len (pa_cons (pe_fld (pv 0) rfl) pa_nil)) (pgi T.tmost) (nomark _)) (pss_one (ps_ret (pe_lst (pa_cons (pgi T.tooM) pa_nil)))) pss_nil)
      (pss_cons (ps_set (i := 4) scAT.nd rfl (Or.inl rfl) (pe_fld (pv 0) rfl))
      (pss_cons (ps_set (i := 5) scAT.nd rfl (Or.inl rfl) (pe_ix ix_list (pe_fld (pv 0) rfl) (pv 1) (fun _ _ => rfl)))
      (pss_cons (ps_expr (pe_bm PySem.F.plainAttrs_list PySem.F.slot_list_append PySem.F.type_list_append mt_append (pe_fld (pv 0) rfl) (pa_cons (pe_make M GI hr rfl T.mgT bI .nil pass0 (pa_cons (pv 4) (pa_cons (pv 1) (pa_cons (pe_op op_add (pe_fld (pv 5) rfl) (pv 2)) (pa_cons (pv 3) pa_nil))))) pa_nil)))
      (pss_cons (ps_fldaug (pv 0) pe_int in_add)
      (pss_one (ps_ret (pe_lst (pa_cons (pv 4) pa_nil)))))))))), ?_⟩
    have sz : (1 : Nat) ≤ sizeLine := by decide
    have no : (n = 0 ∨ 1000 < n ∨ 1000 < a) → ∀ p, H p = none → Q (.ref p) (upd H p (.lst [.int (-1)])) := fun c p hp => by
      have e : Ge03.step w (.timer o n a) = (w, [-1]) := if_pos c
      rw [e] at k
      exact k.new R hp rfl
    refine ⟨_, rfl, _, _, rfl, rfl, _, rfl, ?_⟩
    by_cases c1 : n = 0
    · exact if_true_of (decide_eq_true (by omega)) (iteT ⟨sz, no (.inl c1)⟩)
    refine if_false_of (decide_eq_false (by omega)) ?_
    refine ⟨_, rfl, _, _, rfl, rfl, _, rfl, ?_⟩
    by_cases c2 : 1000 < n
    · exact if_true_of (decide_eq_true (by omega)) (iteT ⟨sz, no (.inr (.inl c2))⟩)
    refine if_false_of (decide_eq_false (by omega)) ?_
    refine ⟨_, rfl, _, _, rfl, rfl, _, rfl, ?_⟩
    by_cases c3 : 1000 < a
    · exact if_true_of (decide_eq_true (by omega)) ⟨sz, no (.inr (.inr c3))⟩
    refine if_false_of (decide_eq_false (by omega)) ?_
    have cc : ¬ (n = 0 ∨ 1000 < n ∨ 1000 < a) := by omega
    obtain ⟨dx, lc, lt, cas, tas, X⟩ := id R
    refine ⟨_, rfl, g, dx, _, rfl, X.hg, gF_no _ _ _ (by decide +kernel), _, rfl, H0, g, w, o, rfl, R, _, rfl, ?_⟩
    have es : Ge03.step w (.timer o n a) = (match w.clocks[o]? with
        | none => (w, [-2])
        | some x => if 12 ≤ w.timers.length then (w, [-5]) else ({ w with timers := w.timers ++ [⟨w.given, o, x.ticks + n, a⟩], given := w.given + 1 }, Ge03.ints [w.given])) := by
      show (if n = 0 ∨ 1000 < n ∨ 1000 < a then _ else match Ge03.clockOf w o with | none => _ | some x => _) = _
      rw [if_neg cc, ok.clockOf]
    by_cases c4 : o < w.clocks.length
    case neg =>
      have e : Ge03.step w (.timer o n a) = (w, [-2]) := by
        rw [es, List.getElem?_eq_none (by omega)]
      rw [e] at k
      exact if_true_of (by rw [decide_eq_false c4]; rfl) ⟨sz, fun p hp => k.new R hp rfl⟩
    refine if_false_of (by rw [decide_eq_true c4]; rfl) ?_
    obtain ⟨c, hc⟩ : ∃ c, w.clocks[o]? = some c := ⟨_, List.getElem?_eq_getElem c4⟩
    obtain ⟨ca, hca'⟩ : ∃ ca, cas[o]? = some ca := ⟨_, List.getElem?_eq_getElem (by rw [X.cl.len]; exact c4)⟩
    obtain ⟨dc, hca⟩ := X.cl.at_ o ca c hca' hc
    rw [hc] at es
    have hlen : ((tas.map V.ref).length : Int) = ((w.timers.length : Nat) : Int) := by rw [List.length_map, X.tm.len]
    refine ⟨_, rfl, g, CG, dx, _, _, rfl, X.hg, T.clG, T.g7, gF_timers _ _ _, lt, _, rfl, .inl (SqL.of X.ht), _, _, rfl, rfl, _, rfl, ?_⟩
    by_cases c5 : 12 ≤ w.timers.length
    · have e : Ge03.step w (.timer o n a) = (w, [-5]) := by
        rw [es]
        exact if_pos c5
      rw [e] at k
      exact if_true_of (decide_eq_true (by rw [hlen]; omega)) ⟨sz, fun p hp => k.new R hp rfl⟩
    refine if_false_of (decide_eq_false (by rw [hlen]; omega)) ?_
    have e : Ge03.step w (.timer o n a) = ({ w with timers := w.timers ++ [⟨w.given, o, c.ticks + n, a⟩], given := w.given + 1 }, Ge03.ints [w.given]) := by
      rw [es]
      exact if_neg c5
    rw [e] at k
    refine ⟨_, rfl, g, CG, dx, _, _, rfl, X.hg, T.clG, T.g8, gF_given _ _ _, ?_⟩
    refine ⟨_, rfl, g, CG, dx, _, _, rfl, X.hg, T.clG, T.g6, gF_clocks _ _ _, _, rfl, lc, _, (o : Int), _, rfl, rfl, SqL.of X.hc, atI_nat (ref_get hca'), ?_⟩
    refine ⟨_, rfl, g, CG, dx, _, _, rfl, X.hg, T.clG, T.g7, gF_timers _ _ _, .inl ⟨rfl, _, SqL.of X.ht⟩, _, rfl, _, rfl, _, rfl, ca, CC, dc, _, _, rfl, hca, T.clC, T.c3, cF_ticks c, _, rfl, _, _, rfl, rfl, _, rfl, ?_⟩
    have ed : (c.ticks : Int) + (n : Int) = ((c.ticks + n : Nat) : Int) := by omega
    dsimp only
    rw [ed]
    intro x d nx nd ne
    refine ⟨x, d, w.given, o, c.ticks + n, a, rfl, upd_same, rfl, ?_⟩
    rw [upd_upd]
    have X1 := X.made (o := .own x) (u := .ins CT d (tF ⟨w.given, o, c.ticks + n, a⟩)) nx nd ne
    have nxc : x ∉ tas := fun z => by
      obtain ⟨y, dy, e⟩ := X.tm.mem z
      rw [nx] at e
      cases e
    have X2 := X1.addTimer (x := x) (d := d) (X.s.free nx) nxc upd_same
    rw [List.map_append] at X2
    refine ⟨lt, _, _, rfl, rfl, X1.ht, small (by rw [List.length_map, X.tm.len]; omega), ?_⟩
    refine ⟨_, rfl, g, CG, dx, _, _, rfl, X2.hg, T.clG, T.g8, gF_given _ _ _, _, _, rfl, rfl, dx, _, X2.hg, (by show 8 < 1000; decide), ?_⟩
    have eg : (w.given : Int) + 1 = ((w.given + 1 : Nat) : Int) := by omega
    dsimp only
    rw [eg, gF_putGiven]
    refine ⟨_, rfl, sz, fun p hp => ?_⟩
    exact k.new ⟨dx, lc, lt, cas, _, X2.setG rfl rfl⟩ hp rfl
end
end Tk

namespace Tk
open PySem PySem.Spec PyProof.Rows L2
/-! ### for i, x in enumerate(xs, start=k) -/
/-- the list at a, each item in a new pair with its number, counted from k -/
def ItEnumK (K : PySem.W.Frag) (a : Addr) (k : Int) : It where
  go i H := ∃ (xs : List V) (x : V), SqL K H a xs ∧ xs[i]? = some x
  yld i H v H' := ∃ T x, v = .ref T ∧ H T = none ∧ H' = upd H T (.tup [.int (k + (i : Nat)), x]) ∧ ∀ xs, SqL K H a xs → xs[i]? = some x
  stop i H := ∃ xs : List V, SqL K H a xs ∧ xs.length = i
theorem list_ne_iter {h : Heap} {a it : Addr} {its : Array Value} {i : Nat} (h1 : h.IsList a its) (h2 : h.IsListIter it a i) : a ≠ it := fun z => by
  obtain ⟨o, e1, _, n, d1⟩ := h1
  obtain ⟨u, e2, _, d2⟩ := h2
  rw [z, e2] at e1
  cases e1
  rw [d2] at d1
  cases d1
theorem list_ne_enum {h : Heap} {a e it : Addr} {its : Array Value} {c : Int} {old : Value} (h1 : h.IsList a its) (h2 : IsEnum h e it c old) : e ≠ a := fun z => by
  obtain ⟨o, e1, _, n, d1⟩ := h1
  have e2 : h.get? e = some _ := h2
  rw [z, e1] at e2
  cases e2
  cases d1
theorem turn_enumK {P : Program} {w : World} {K : PySem.W.Frag} {elts : List Expr} {kk : Nat} {tpos : Pos} (a e it : Addr) (k : Int) :
    Turn P w K (.Tuple elts kk tpos) (ItEnumK K a k) [e, it] e (fun i h => (∃ old, IsEnum h e it (k + (i : Nat)) old) ∧ h.IsListIter it a i ∧ e ≠ it) where
  mem := List.mem_cons_self
  obj := fun i h st b hb => by
    obtain ⟨⟨old, he⟩, ⟨o, ho, hc, hd⟩, _⟩ := st
    rcases List.mem_cons.mp hb with z | z
    · subst z
      exact ⟨_, he, fun v q => nomatch q⟩
    · rw [List.mem_singleton.mp z]
      exact ⟨o, ho, fun v q => by rw [hd] at q; cases q⟩
  keep := fun i h h' st kp => by
    obtain ⟨⟨old, he⟩, hi, hne⟩ := st
    exact ⟨⟨old, kp e (by simp) _ he⟩, hi.at fun o q => kp it (by simp) o q, hne⟩
  item := by
    intro X hP hw hK hc i pins s σ H E I hf st hg
    subst hP hw hK
    obtain ⟨⟨old, he⟩, hit, hne⟩ := st
    obtain ⟨xs, x, hq, hx⟩ := hg
    obtain ⟨its, rv, p, hz⟩ := I.list hq
    obtain ⟨u, hu, ru⟩ := rv.get hx
    have nai : a ≠ it := list_ne_iter p.isList hit
    have nea : e ≠ a := list_ne_enum p.isList he
    have elt : e < s.heap.objs.size := Heap.lt_size he
    have ilt : it < s.heap.objs.size := by
      obtain ⟨_, q, _⟩ := hit
      exact Heap.lt_size q
    have DD : Draws X.prog X.w X.A.in1 it [it, a] its.toArray.size (fun i v => its.toArray[i]? = some v) (fun i h => h.IsListIter it a i ∧ h.IsList a its.toArray) := Draws.list (A := X.A.in1) (show X.A.in1.handled = none from I.ok.hd hc) it a nai its.toArray
    have ilen : i < its.toArray.size := by
      have := (List.getElem?_eq_some_iff.mp hu).1
      simpa using this
    refine wpAny_pyNext_enum_itemC DD he ⟨hit, p.isList⟩ ilen hne (by simp [hne, nea]) fun y h' t1 hy ho hit' hT hsz hk => ?_
    have ey : y = u := by
      have e1 : its[i]? = some y := by simpa using hy
      exact Option.some.inj (e1.symm.trans hu)
    subst ey
    refine ⟨_, rfl, wpAny_letOwnedTupleGo_enum (s := { s with heap := h', toks := t1 + 1 }) ho fun h2 he2 sb => ?_⟩
    have hT2 : h2.get? s.heap.objs.size = some { cls := .type "tuple", data := .seq #[.int (k + (i : Nat)) t1, y] } := (sb.2 _ (Nat.ne_of_gt elt)).trans hT
    have made : ObjOk X.prog X.w (upd H s.heap.objs.size (.tup [.int (k + (i : Nat)), x])) h2 s.heap.objs.size (.tup [.int (k + (i : Nat)), x]) :=
      ⟨by show 2 ≤ sizeLine; decide, [.int (k + (i : Nat)) t1, y], .cons ⟨_, rfl⟩ (.cons ru .nil), ⟨_, hT2, rfl, _, rfl⟩⟩
    have I1 : Inv X pins σ (upd H s.heap.objs.size (.tup [.int (k + (i : Nat)), x])) { s with heap := h2, toks := t1 + 1 } := by
      refine I.turnedNew (ch := [e, it]) (fun b ob hb q => ?_) hf (Nat.le_refl _) made
      have n1 : b ≠ e := fun z => hb (by simp [z])
      have n2 : b ≠ it := fun z => hb (by simp [z])
      exact (sb.2 b n1).trans (hk b ob n1 n2 q)
    refine ⟨.ref s.heap.objs.size, _, I1, rfl, ⟨_, x, rfl, I.hok.fresh (Nat.le_refl _), rfl, fun ys hys => ?_⟩, ⟨⟨y, ?_⟩, hit'.1.at fun o q => (sb.2 it hne.symm).trans q, hne⟩, fun b hb => ?_⟩
    · rw [I.list_inj hys hq]
      exact hx
    · have e1 : k + ((i + 1 : Nat) : Int) = k + (i : Nat) + 1 := by omega
      rw [e1]
      exact he2
    · have blt : b < s.heap.objs.size := by
        rcases List.mem_cons.mp hb with z | z
        · rw [z]; exact elt
        · rw [List.mem_singleton.mp z]; exact ilt
      rw [upd_ne (Nat.ne_of_lt blt)]
      exact (hf b hb).1
  done := by
    intro X hP hw hK hc i pins s σ H E I hf st hg
    subst hP hw hK
    obtain ⟨⟨old, he⟩, hit, hne⟩ := st
    obtain ⟨xs, hq, hx⟩ := hg
    obtain ⟨its, rv, p, hz⟩ := I.list hq
    obtain ⟨f0, f1, f2, f3, f4, f5⟩ := hf it (by simp)
    have nai : a ≠ it := list_ne_iter p.isList hit
    have DD : Draws X.prog X.w X.A.in1 it [it, a] its.toArray.size (fun i v => its.toArray[i]? = some v) (fun i h => h.IsListIter it a i ∧ h.IsList a its.toArray) := Draws.list (A := X.A.in1) (show X.A.in1.handled = none from I.ok.hd hc) it a nai its.toArray
    have en : its.toArray.size = i := by
      rw [← hx, rv.length]
      simp
    refine wpAny_pyNext_enum_endD DD he ⟨by rw [en]; exact hit, p.isList⟩ fun h' eb => ⟨rfl, ?_⟩
    exact I.turned (t' := s.toks) (fun b o hb q => eb b o hb q) f0 f1 f3 f4 f5
  self := fun A i s Q E st h => by
    obtain ⟨⟨old, he⟩, _⟩ := st
    exact wpAny_pyIter_enum he h
/-- a call of a built-in class with keywords -/
theorem callWith_typeK {M : Model} {A : Around} {E : Value → Shared → Prop} {s : Shared} {env : Env} {pos : Pos} {T : String} {e : Expr} {rest : List Expr} {kws : List Keyword} {Q : Value → Shared → Prop}
    (h : wpAny M A (spliced (backTo pos (starEach (e :: rest) env))) (fun us s1 => wpAny M A (evalAll ((backToKw pos (keywordEach kws env)).map (·.2)))
      (fun ws s2 => wpAny M A (call (.type T) us (((backToKw pos (keywordEach kws env)).filterMap (·.1)).zip ws)) Q E s2) E s1) E s)
    (he : backTo pos (starEach (e :: rest) env) = (false, eval e env) :: backTo pos (starEach rest env)) (hp : (backTo pos (starEach (e :: rest) env)).any (·.1) = false)
    (hall : (backToKw pos (keywordEach kws env)).all (·.1.isSome) = true) (hn : (backToKw pos (keywordEach kws env)).any (·.1.isNone) = false) :
    wpAny M A (callWith pos (.type T) [] (backTo pos (starEach (e :: rest) env)) (backToKw pos (keywordEach kws env))) Q E s := by
  have h2 : wpAny M A (evalArgs (.type T) true (backTo pos (starEach (e :: rest) env)) (backToKw pos (keywordEach kws env))) (fun a s1 => wpAny M A (call (.type T) ([] ++ a.pos) a.kw) Q E s1) E s := by
    rw [he] at h ⊢
    exact evalArgs_kwB hall h
  unfold callWith
  refine wpAny_bind (wpAny_holding (wpAny_mono h2 (fun a s1 h3 => wpAny_bind (wpAny_standAt ?_)) fun _ _ z => z))
  simp only [hp, hn, Bool.or_false]
  refine wpAny_bind (wpAny_pure ?_)
  refine wpAny_bind (wpAny_mono h3 (fun r s2 hr => ?_) fun _ _ z => z)
  exact wpAny_bind (wpAny_holding (wpAny_point (wpAny_pure hr)))
def iEnumK (K : PySem.W.Frag) (ta tk : TA) : TI := fun σ H R => ta σ H fun vs H1 => tk σ H1 fun zs H2 => ∃ (a : Addr) (xs : List V) (k : Int), vs = [.ref a] ∧ zs = [.int k] ∧ -(2 ^ 63) ≤ k ∧ k < 2 ^ 63 ∧ SqL K H2 a xs ∧ R (ItEnumK K a k) H2
theorem pi_enumK {X : Cx} {e ke : Expr} {ta tk : TA} {p pos tpos kpos : Pos} {elts : List Expr} {kk : Nat} (hg : Gl X "enumerate") (hm : X.mg "enumerate" = none) (ha : PA X [e] ta) (hk : PK X [⟨some "start", ke, kpos⟩] tk)
    (he : backTo pos (starEach [e] X.env) = (false, eval e X.env) :: backTo pos (starEach [] X.env) := by rfl) (hp : (backTo pos (starEach [e] X.env)).any (·.1) = false := by rfl) :
    PI X (.Tuple elts kk tpos) (.Call (.Name "enumerate" p) [e] [⟨some "start", ke, kpos⟩] pos) (iEnumK X.K ta tk) := by
  refine ⟨fun pins s σ H R I h => ?_⟩
  refine wpAny_Call_Name_kw (ld_blt I hg hm boot_enumerate (callWith_typeK (thn (ha.run pos pins s σ H _ I h) fun us s1 ⟨vs, H1, I1, r1, q1⟩ => thn (hk.run pos pins s1 σ H1 _ I1 q1) fun ws s2 ⟨zs, H2, I2, r2, q2⟩ => ?_) he hp rfl rfl))
  obtain ⟨a, xs, k, ev, ez, k0, k1, hq, q⟩ := q2
  subst ev ez
  obtain ⟨u, rfl, ru⟩ := vals1 r1
  obtain rfl : u = Value.ref a := ru
  obtain ⟨v, rfl, rv⟩ := vals1 r2
  obtain ⟨t, rfl⟩ := rv
  obtain ⟨its, rvs, pl, hz⟩ := I2.list hq
  refine enum_begins_start (begins_list a its.toArray) pl.isList k0 k1 fun h' he hit hsz kp => wpAny_pyIter_enum he ?_
  have I3 : Inv X pins σ H2 { s2 with heap := h' } := I2.kept (t' := s2.toks) kp
  refine ⟨s2.heap.objs.size + 1, [s2.heap.objs.size + 1, s2.heap.objs.size], _, _, H2, rfl, I3, turn_enumK a (s2.heap.objs.size + 1) s2.heap.objs.size k, ⟨⟨.none, ?_⟩, ⟨_, hit, rfl, rfl⟩, Nat.succ_ne_self _⟩, fun b hb => ?_, q⟩
  · have e0 : k + ((0 : Nat) : Int) = k := by omega
    rw [e0]
    exact he
  · have ble : s2.heap.objs.size ≤ b := by
      rcases List.mem_cons.mp hb with z | z
      · rw [z]; exact Nat.le_add_right _ _
      · rw [List.mem_singleton.mp z]; exact Nat.le_refl _
    exact I2.fpOk ble (I2.hok.fresh ble)
theorem for_enumK {K : PySem.W.Frag} {a : Addr} {k : Int} {xs : List V} {g : TG} {tb : TS} {D : Ends} {σ : L2.St} {H : Hp} (Pv : Nat → L2.St → Hp → Prop) (h0 : Pv 0 σ H) (hl : ∀ i σ H, Pv i σ H → SqL K H a xs)
    (hs : ∀ i x T σ H, xs[i]? = some x → Pv i σ H → H T = none → g (.ref T) σ (upd H T (.tup [.int (k + (i : Nat)), x])) fun σ2 H2 => tb { D with nx := Pv (i + 1), ct := Pv (i + 1), bk := D.nx } σ2 H2) (hd : ∀ σ H, Pv xs.length σ H → D.nx σ H) :
    ∃ W : Nat → Nat → L2.St → Hp → Prop, (∃ m, W 0 m σ H) ∧ ∀ i m σ H, W i m σ H →
      ((ItEnumK K a k).stop i H ∧ D.nx σ H) ∨ ((ItEnumK K a k).go i H ∧ ∃ N : L2.St → Hp → Prop, (∀ σ' H', N σ' H' → ∃ m', m' < m ∧ W (i + 1) m' σ' H') ∧ ∀ x H', (ItEnumK K a k).yld i H x H' → g x σ H' fun σ2 H2 => tb { D with nx := N, ct := N, bk := D.nx } σ2 H2) := by
  refine ⟨fun i m σ H => m = xs.length - i ∧ i ≤ xs.length ∧ Pv i σ H, ⟨_, rfl, Nat.zero_le _, h0⟩, ?_⟩
  rintro i m σ H ⟨rfl, hi, pv⟩
  have q := hl i σ H pv
  rcases Nat.lt_or_ge i xs.length with hlt | hge
  · refine .inr ⟨⟨xs, xs[i], q, List.getElem?_eq_getElem hlt⟩, Pv (i + 1), fun σ' H' p' => ⟨_, by omega, rfl, hlt, p'⟩, fun v H' y => ?_⟩
    obtain ⟨T, x, rfl, hT, rfl, hx⟩ := y
    exact hs i x T σ H (hx xs q) pv hT
  · have ei : i = xs.length := by omega
    subst ei
    exact .inl ⟨⟨xs, q, rfl⟩, hd σ H pv⟩
end Tk

namespace Tk
open PySem PySem.Spec PyProof.Rows L2
/-! ### looking for a timer; when it rings first -/
theorem find_first : ∀ {ts : List GTimer} {n i : Nat} {t : GTimer}, ts[i]? = some t → t.number = n → (∀ j u, j < i → ts[j]? = some u → u.number ≠ n) → ts.find? (fun x => x.number == n) = some t
  | [], n, i, t, h, _, _ => by simp at h
  | a :: ts, n, 0, t, h, hn, _ => by
    have e : a = t := by simpa using h
    subst e
    simp [hn]
  | a :: ts, n, i + 1, t, h, hn, no => by
    have ha : a.number ≠ n := no 0 a (Nat.succ_pos i) rfl
    rw [List.find?_cons]
    have e : (a.number == n) = false := by simp [ha]
    rw [e]
    exact find_first (i := i) (by simpa using h) hn fun j u hj hu => no (j + 1) u (Nat.succ_lt_succ hj) (by simpa using hu)
theorem find_not {ts : List GTimer} {n : Nat} (no : ∀ j u, j < ts.length → ts[j]? = some u → u.number ≠ n) : ts.find? (fun x => x.number == n) = none := by
  rw [List.find?_eq_none]
  intro x hx
  obtain ⟨j, hj⟩ := List.mem_iff_getElem?.mp hx
  have := no j x (List.getElem?_eq_some_iff.mp hj).1 hj
  simpa using this
def spFind (CG CC CT : Addr) : Sp := fun vs H Q _ => ∃ (H0 : Hp) (g dx lc lt : Addr) (cas tas : List Addr) (w : GWorld) (n : Nat), vs = [.ref g, .int (n : Int)] ∧ GX CG CC CT H0 H g dx lc lt cas tas w ∧
  (∀ (i : Nat) (t : GTimer) (a : Addr), w.timers[i]? = some t → tas[i]? = some a → w.timers.find? (fun x => x.number == n) = some t → Q (.ref a) H) ∧ (w.timers.find? (fun x => x.number == n) = none → Q .non H)
/-- what foresee_clocks tells: row by row, how many ticks each clock will have had -/
def rowOf (l : List GClock) (n : Nat) : List Nat := (clk n l).map fun c => c.ticks
def RowsAt (H : Hp) (rows : List V) (l : List GClock) (n : Nat) : Prop := rows.length = n ∧ ∀ i, i < n → ∃ a, rows[i]? = some (.ref a) ∧ H a = some (.lst (vN (rowOf l (i + 1))))
theorem RowsAt.same {H H' : Hp} {rows : List V} {l : List GClock} {n : Nat} (h : RowsAt H rows l n) (s : Same H H') : RowsAt H' rows l n := ⟨h.1, fun i hi => by
  obtain ⟨a, h1, h2⟩ := h.2 i hi
  exact ⟨a, h1, s _ _ h2⟩⟩
theorem row_at {l : List GClock} (h : CkOk l) {c : Nat} (hc : c < l.length) (n : Nat) : (rowOf l n)[c]? = some (tk (clk n l) c) := by
  unfold rowOf tk
  have hl : c < (clk n l).length := by rw [clk_len n h]; exact hc
  rw [List.getElem?_map, List.getElem?_eq_getElem hl]
  rfl
def oV : Option Nat → V
  | none => .non
  | some n => .int (n : Int)
def spFirst (CT : Addr) : Sp := fun vs H Q _ => ∃ (p a dx : Addr) (t : GTimer) (l : List GClock) (rows : List V), vs = [.ref p, .ref a] ∧ H p = some (.ins CT dx (tF t)) ∧ H a = some (.lst rows) ∧ RowsAt H rows l 300 ∧ CkOk l ∧ t.clock < l.length ∧
  ∀ H', Same H H' → Q (oV (firstAt 300 l t.clock t.due)) H'
section
variable {P : Program} {w : World} {K : PySem.W.Frag} {mg : Str → Option Value} {base : Heap} {CG CC CT : Addr}
theorem scFi : FnScope ["self", "number", "timer"] ["self", "number"] (defScope sFind) := ⟨rfl, rfl, rfl, by decide +kernel, rfl, by decide +kernel, by decide +kernel⟩
theorem ok_find {f : Addr} {fd : FuncData} (F : Fun K "find_timer" "Game.find_timer" sFind f fd) (T : Txt K mg CG CC CT) : FnOk P w K mg base CX0 1 f fd ["self", "number"] (spFind CG CC CT) := by
  refine F.ok scFi (fun vs H Q E h => ?_) (fun cdv A outer s H vs Q E hr h => ?_)
  · obtain ⟨H0, g, dx, lc, lt, cas, tas, w, n, rfl, _⟩ := h
    rfl
  · obtain ⟨H0, g, dx, lc, lt, cas, tas, w, n, rfl, X, k1, k2⟩ := h
    refine ⟨_, pss_cons (ps_for PassesOwn.never rfl (pi_list (pe_fld (pv 0) rfl)) (pg_name (i := 2) scFi.nd rfl (Or.inl rfl))
        (pss_one (ps_if (pt_cmpR op_eq (pe_fld (pv 2) rfl) (pv 1) (nomark _)) (pss_one (ps_ret (pv 2))) pss_nil)))
      (pss_one (ps_ret pe_non)), ?_⟩
    refine ⟨_, rfl, g, CG, dx, _, _, rfl, X.hg, T.clG, T.g7, gF_timers _ _ _, lt, rfl, ⟨_, SqL.of X.ht⟩, for_list (K := K) (a := lt) (xs := tas.map V.ref) (fun i σ H' => ∃ v : Option V, σ = [some (.ref g), some (.int (n : Int)), v] ∧ H' = H ∧ ∀ j u, j < i → w.timers[j]? = some u → u.number ≠ n)
      ⟨none, rfl, rfl, fun j u hj _ => absurd hj (Nat.not_lt_zero j)⟩ (fun i σ H' _ ⟨_, _, e, _⟩ => by rw [e]; exact SqL.of X.ht) ?_ ?_⟩
    · rintro i y σ H' hi ⟨v, rfl, rfl, no⟩
      obtain ⟨a, ha, rfl⟩ := ref_at hi
      have hlt : i < w.timers.length := by
        have h1 := (List.getElem?_eq_some_iff.mp ha).1
        have h2 := X.tm.len
        omega
      obtain ⟨t, ht⟩ : ∃ t, w.timers[i]? = some t := ⟨_, List.getElem?_eq_getElem hlt⟩
      obtain ⟨dt, hta⟩ := X.tm.at_ i a t ha ht
      refine ⟨_, rfl, a, CT, dt, _, _, rfl, hta, T.clT, T.t1, tF_number t, _, rfl, rfl, _, rfl, ?_⟩
      by_cases c : t.number = n
      · exact if_true_of (decide_eq_true (by rw [c])) ⟨_, rfl, k1 i t a ht ha (find_first ht c no)⟩
      · refine if_false_of (decide_eq_false fun z => c (by injection z with z; omega)) ?_
        refine ⟨_, rfl, rfl, fun j u hj hu => ?_⟩
        rcases Nat.lt_or_ge j i with q | q
        · exact no j u q hu
        · have e : j = i := by omega
          subst e
          rw [ht] at hu
          cases hu
          exact c
    · rintro σ H' ⟨v, rfl, rfl, no⟩
      rw [List.length_map, X.tm.len] at no
      exact k2 (find_not no)
theorem scFR : FnScope ["self", "ahead", "ticks", "had"] ["self", "ahead"] (defScope sFirst) := ⟨rfl, rfl, rfl, by decide +kernel, rfl, by decide +kernel, by decide +kernel⟩
theorem ok_first {f : Addr} {fd : FuncData} (F : Fun K "first_ring" "Timer.first_ring" sFirst f fd) (T : Txt K mg CG CC CT) : FnOk P w K mg base CX0 1 f fd ["self", "ahead"] (spFirst CT) := by
  refine F.ok scFR (fun vs H Q E h => ?_) (fun cdv A outer s H vs Q E hr h => ?_)
  · obtain ⟨p, a, dx, t, l, rows, rfl, _⟩ := h
    rfl
  · obtain ⟨p, a, dx, t, l, rows, rfl, hp, ha, hR, ck, htc, k⟩ := h
    refine ⟨_, pss_cons (ps_for PassesOwn.never rfl (pi_enumK (by rfl) T.enu (pa_cons (pv 1) pa_nil) (pk_cons pe_int pk_nil)) (pg_tup rfl (pgs_cons (pg_name (i := 2) scFR.nd rfl (Or.inl rfl)) (pgs_cons (pg_name (i := 3) scFR.nd rfl (Or.inl rfl)) pgs_nil)))
        (pss_one (ps_if (pt_cmpR op_ge (pe_ix ix_list (pv 3) (pe_fld (pv 0) rfl) (fun _ _ => rfl)) (pe_fld (pv 0) rfl) (nomark _)) (pss_one (ps_ret (pv 2))) pss_nil)))
      (pss_one (ps_ret pe_non)), ?_⟩
    refine ⟨_, rfl, a, rows, 1, rfl, rfl, by decide, by decide, SqL.of ha, for_enumK (K := K) (a := a) (k := 1) (xs := rows) (fun i σ H' => ∃ v2 v3 : Option V, σ = [some (.ref p), some (.ref a), v2, v3] ∧ Same H H' ∧ ∀ j, 1 ≤ j → j ≤ i → ¬ t.due ≤ tk (clk j l) t.clock)
      ⟨none, none, rfl, Same.refl H, fun j h1 h2 => by omega⟩ (fun i σ H' ⟨_, _, _, s1, _⟩ => SqL.of (s1 _ _ ha)) ?_ ?_⟩
    · rintro i x q σ H' hi ⟨v2, v3, rfl, s1, no⟩ hq
      have hlt : i < 300 := by
        have h1 := (List.getElem?_eq_some_iff.mp hi).1
        have h2 := hR.1
        omega
      obtain ⟨b, hb1, hb2⟩ := hR.2 i hlt
      rw [hi] at hb1
      cases hb1
      have s2 : Same H (upd H' q (.tup [.int (1 + (i : Nat)), .ref b])) := s1.trans (same_new hq)
      refine ⟨q, _, rfl, SqT.of upd_same, rfl, _, _, rfl, _, _, rfl, rfl, ?_⟩
      refine ⟨_, rfl, _, rfl, p, CT, dx, _, _, rfl, s2 _ _ hp, T.clT, T.t2, tF_clock t, b, _, (t.clock : Int), _, rfl, rfl, SqL.of (s2 _ _ hb2), atI_nat (getElem?_vN (row_at ck htc (i + 1))), _, rfl, p, CT, dx, _, _, rfl, s2 _ _ hp, T.clT, T.t3, tF_due t, _, _, rfl, rfl, _, rfl, ?_⟩
      by_cases c : t.due ≤ tk (clk (i + 1) l) t.clock
      · refine if_true_of (decide_eq_true (by omega)) ⟨_, rfl, ?_⟩
        have e : firstAt 300 l t.clock t.due = some (i + 1) := first_some.mpr ⟨by omega, by omega, c, fun j h1 h2 => no j h1 (by omega)⟩
        have e2 : V.int (1 + (i : Nat)) = oV (firstAt 300 l t.clock t.due) := by
          rw [e]
          show V.int _ = V.int _
          congr 1
          omega
        have k2 := k _ s2
        rw [← e2] at k2
        exact k2
      · refine if_false_of (decide_eq_false (by omega)) ?_
        refine ⟨_, _, rfl, s2, fun j h1 h2 => ?_⟩
        rcases Nat.lt_or_ge i j with z | z
        · have : j = i + 1 := by omega
          rw [this]
          exact c
        · exact no j h1 z
    · rintro σ H' ⟨v2, v3, rfl, s1, no⟩
      rw [hR.1] at no
      have e : firstAt 300 l t.clock t.due = none := first_none.mpr no
      rw [e] at k
      exact k H' s1
end
end Tk

namespace Tk
open PySem PySem.Spec PyProof.Rows L2
/-! ### how far the clocks will be -/
theorem Objs.same {α : Type} {C : Addr} {f : α → List (Str × V)} {H0 H H' : Hp} {as : List Addr} {xs : List α} (h : Objs C f H0 H as xs) (s : Same H H') : Objs C f H0 H' as xs := ⟨h.len, h.nd, h.free, fun i a x hi hx => by
  obtain ⟨d, e⟩ := h.at_ i a x hi hx
  exact ⟨d, s _ _ e⟩⟩
theorem RowsAt.moved {H H' : Hp} {rows : List V} {l : List GClock} {n : Nat} (h : RowsAt H rows l n) (k : ∀ b xs, H b = some (.lst xs) → H' b = some (.lst xs)) : RowsAt H' rows l n := ⟨h.1, fun i hi => by
  obtain ⟨a, h1, h2⟩ := h.2 i hi
  exact ⟨a, h1, k _ _ h2⟩⟩
theorem RowsAt.more {H : Hp} {rows : List V} {l : List GClock} {n : Nat} (h : RowsAt H rows l n) {q : Addr} (hq : H q = some (.lst (vN (rowOf l (n + 1))))) : RowsAt H (rows ++ [.ref q]) l (n + 1) := by
  refine ⟨by rw [List.length_append, h.1]; rfl, fun i hi => ?_⟩
  rcases Nat.lt_or_ge i n with z | z
  · obtain ⟨a, h1, h2⟩ := h.2 i z
    exact ⟨a, by rw [List.getElem?_append_left (by rw [h.1]; exact z)]; exact h1, h2⟩
  · have e : i = n := by omega
    subst e
    refine ⟨q, ?_, hq⟩
    rw [List.getElem?_append_right (by rw [h.1]; exact Nat.le_refl _), h.1, Nat.sub_self]
    rfl
theorem less_upd {H : Hp} {p : Addr} {o : HO} : less (upd H p o) p = less H p := by
  funext b
  by_cases c : b = p
  · rw [c, less_at, less_at]
  · rw [less_ne c, less_ne c, upd_ne c]
theorem less_mono {H H' : Hp} {p : Addr} (s : Same H H') : Same (less H p) (less H' p) := fun b o e => by
  by_cases c : b = p
  · rw [c, less_at] at e
    cases e
  · rw [less_ne c] at e ⊢
    exact s b o e
def spAhead (CG CC CT : Addr) : Sp := fun vs H Q _ => ∃ (H0 : Hp) (g : Addr) (w : GWorld), vs = [.ref g] ∧ GameAt CG CC CT H0 H g w ∧ CkOk w.clocks ∧ w.clocks.length ≤ 6 ∧
  ∀ (H1 H' : Hp) (p : Addr) (rows : List V), Same H0 H1 → H0 p = none → H1 p = some (.lst rows) → RowsAt H1 rows w.clocks 300 → GameAt CG CC CT H1 H' g w → Q (.ref p) H'
section
variable {P : Program} {w : World} {K : PySem.W.Frag} {mg : Str → Option Value} {base : Heap} {CG CC CT : Addr}
theorem scAh : FnScope ["self", "clocks", "ahead", "clock"] ["self"] (defScope sAhead) := ⟨rfl, rfl, rfl, by decide +kernel, rfl, by decide +kernel, by decide +kernel⟩
theorem ok_ahead {f fW fM : Addr} {fd fdW fdM : FuncData} (F : Fun K "foresee_clocks" "Game.foresee_clocks" sAhead f fd) (T : Txt K mg CG CC CT) (GW : FnOk P w K mg base CX0 3 fW fdW ["self"] (spTwin CC)) (bW : Binds K fdW ["self"] []) (mW : Meth K CC "twin" fW)
    (GM : FnOk P w K mg base CX0 2 fM fdM ["clocks"] (spMove CC)) (bM : Binds K fdM ["clocks"] []) (mgM : mg "move_clocks" = some (.ref fM)) (kpM : PySem.W.keepIn K (.ref fM) = true) :
    FnOk P w K mg base CX0 4 f fd ["self"] (spAhead CG CC CT) := by
  refine F.ok scAh (fun vs H Q E h => ?_) (fun cdv A outer s H vs Q E hr h => ?_)
  · obtain ⟨H0, g, w, rfl, _⟩ := h
    rfl
  · obtain ⟨H0, g, w, rfl, ⟨dx, lc, lt, cas, tas, X⟩, ck, h6, k⟩ := h
    have hr2 : Room 2 _ := hr.mono (by decide)
    refine ⟨_, pss_cons (ps_setLc (i := 1) (own := [("clock", 3)]) (g := gName 3) (tt := tYes) (te := tMeth CC "twin" (spTwin CC) [] E0 (tVar 3) tNil) rfl scAh.nd rfl rfl (sw_true rfl rfl rfl (by decide +kernel)) (pi_list (pe_fld (pv 0) rfl)) (blkOk_by (N := ["self", "clocks", "ahead", "clock"]) (sc := defScope sAhead) (by decide +kernel)) (fun _ _ _ _ _ => pg_name (i := 3) scAh.nd rfl (Or.inl rfl)) (fun _ _ _ _ _ => pts_nil)
        (fun _ _ _ _ _ => pe_meth0 (pv 3) T.clC mW GW hr bW .nil pass0))
      (pss_cons (ps_set (i := 2) scAh.nd rfl (Or.inl rfl) (pe_lst pa_nil))
      (pss_cons (ps_while PassesOwn.never (pt_cmpR op_lt (pe_callB call_len_seq (by rfl) T.len PySem.boot_len (pa_cons (pv 2) pa_nil)) (pgi T.ahead) (nomark _))
        (pss_cons (ps_expr (pe_call GM hr2 rfl mgM kpM bM .nil pass0 (pa_cons (pv 1) pa_nil)))
        (pss_one (ps_expr (pe_bm PySem.F.plainAttrs_list PySem.F.slot_list_append PySem.F.type_list_append mt_append (pv 2) (pa_cons
          (pe_lc (own := [("clock", 3)]) (g := gName 3) (tt := tYes) (te := tFld K (tVar 3) "ticks") rfl scAh.nd (pi_list (pv 1)) (blkOk_by (N := ["self", "clocks", "ahead", "clock"]) (sc := defScope sAhead) (by decide +kernel)) (fun _ _ _ _ _ => pg_name (i := 3) scAh.nd rfl (Or.inl rfl)) (fun _ _ _ _ _ => pts_nil)
            (fun _ _ _ _ _ => pe_fld (pv 3) rfl)) pa_nil))))))
      (pss_one (ps_ret (pv 2))))), ?_⟩
    -- clocks = [clock.twin() for clock in self.clocks]
    refine ⟨_, rfl, g, CG, dx, _, _, rfl, X.hg, T.clG, T.g6, gF_clocks _ _ _, lc, rfl, ⟨_, SqL.of X.hc⟩, fun D hD => lc_list (K := K) (a := lc) (xs := cas.map V.ref) (fun j H5 => ∃ (H5f : Hp) (as : List Addr), Same H0 H5f ∧ H5f D = some (.lst (as.map V.ref)) ∧ (∀ a ∈ as, H0 a = none) ∧ Objs CC cF (fun _ => none) H5f as (w.clocks.take j) ∧
        GX CG CC CT H5f H5 g dx lc lt cas tas w)
      ⟨_, [], same_new (X.s.free hD), upd_same, fun a ha => (List.not_mem_nil ha).elim, ⟨rfl, List.nodup_nil, fun _ _ => rfl, fun i a x hi _ => by simp at hi⟩, X.put (.inr hD)⟩ (fun j H5 _ ⟨_, _, _, _, _, _, X5⟩ => SqL.of X5.hc) ?_ ?_⟩
    · rintro j y H5 hj ⟨H5f, as, s5, hD5, as0, O5, X5⟩
      obtain ⟨a, ha, rfl⟩ := ref_at hj
      have hlt : j < w.clocks.length := by
        have h1 := (List.getElem?_eq_some_iff.mp ha).1
        have h2 := X.cl.len
        omega
      obtain ⟨c, hc⟩ : ∃ c, w.clocks[j]? = some c := ⟨_, List.getElem?_eq_getElem hlt⟩
      obtain ⟨dc, hca⟩ := X5.cl.at_ j a c ha hc
      refine ⟨rfl, ?_⟩
      refine ⟨_, rfl, a, dc, _, rfl, hca, cF_twin c, a, dc, c, rfl, hca, fun q d nq nd ne => ?_⟩
      have hDH := X5.s _ _ hD5
      have nDd : D ≠ d := ne_of_none hDH nd
      have nDq : D ≠ q := ne_of_none hDH nq
      have nq' : upd H5 d (.own q) q = none := (upd_ne ne.symm).trans nq
      have X6 := (X5.put (p := d) (o := .own q) (.inr nd)).put (p := q) (o := .ins CC d (cF c)) (.inr nq')
      have hD6 : upd (upd H5f d (.own q)) q (.ins CC d (cF c)) D = some (.lst (as.map V.ref)) := (upd_ne nDq).trans ((upd_ne nDd).trans hD5)
      have X7 := X6.put (p := D) (o := .lst (as.map V.ref ++ [.ref q])) (.inl ⟨_, hD6⟩)
      have al : as.length = j := by
        have h1 := O5.len
        rw [List.length_take] at h1
        omega
      have mem5 : ∀ b ∈ as, b ≠ d ∧ b ≠ q ∧ b ≠ D := fun b hb => by
        obtain ⟨z, dz, e⟩ := O5.mem hb
        exact ⟨ne_of_none (X5.s _ _ e) nd, ne_of_none (X5.s _ _ e) nq, ne_of e hD5 (fun z => nomatch z)⟩
      refine ⟨as.map V.ref, (upd_ne nDq).trans ((upd_ne nDd).trans hDH), small (by rw [List.length_map]; omega), _, as ++ [q], ?_, ?_, ?_, ?_, X7⟩
      · refine same_stored ((s5.trans (same_new (X5.s.free nd))).trans (same_new ((upd_ne ne.symm).trans (X5.s.free nq)))) ?_
        exact X.s.free hD
      · rw [upd_same, List.map_append]
        rfl
      · intro b hb
        rcases List.mem_append.mp hb with z | z
        · exact as0 b z
        · rw [List.mem_singleton.mp z]
          exact s5.free (X5.s.free nq)
      · have O6 := ((O5.others (p := d) (o := .own q) fun b hb => (mem5 b hb).1).others (p := q) (o := .ins CC d (cF c)) fun b hb => (mem5 b hb).2.1).others (p := D) (o := .lst (as.map V.ref ++ [.ref q])) fun b hb => (mem5 b hb).2.2
        rw [take_more hc]
        exact O6.snoc (d := d) (fun z => (mem5 q z).2.1 rfl) rfl ((upd_ne nDq.symm).trans upd_same)
    rintro H5 ⟨H5f, as, s5, hD5, as0, O5, X5⟩
    have el : (cas.map V.ref).length = w.clocks.length := by rw [List.length_map, X.cl.len]
    rw [el, List.take_length] at O5
    -- ahead = []
    refine ⟨Nat.zero_le _, fun p hp => ?_⟩
    have p5 : H5f p = none := X5.s.free hp
    have p0 : H0 p = none := s5.free p5
    have nDp : D ≠ p := fun z => by rw [z, p5] at hD5; cases hD5
    have asp : ∀ b ∈ as, b ≠ p := fun b hb z => by
      obtain ⟨x, d, e⟩ := O5.mem hb
      rw [z, p5] at e
      cases e
    refine ⟨fun m σ H' => ∃ (n : Nat) (Hf : Hp) (rows : List V), m = 300 - n ∧ n ≤ 300 ∧ σ = [some (.ref g), some (.ref D), some (.ref p), none] ∧ Same H0 Hf ∧ Hf D = some (.lst (as.map V.ref)) ∧ Hf p = some (.lst rows) ∧ RowsAt (less Hf p) rows w.clocks n ∧ Objs CC cF (fun _ => none) Hf as (clk n w.clocks) ∧ GX CG CC CT Hf H' g dx lc lt cas tas w,
      ⟨_, 0, upd H5f p (.lst []), [], rfl, Nat.zero_le _, rfl, s5.trans (same_new p5), (upd_ne nDp).trans hD5, upd_same, ⟨rfl, fun i hi => absurd hi (Nat.not_lt_zero i)⟩, O5.others asp, X5.put (.inr hp)⟩, ?_⟩
    rintro m σ H' ⟨n, Hf, rows, rfl, hn, rfl, sf, hDf, hpf, hrows, O, X1⟩
    refine ⟨_, rfl, p, _, rfl, .inl (SqL.of (X1.s _ _ hpf)), _, _, rfl, rfl, _, rfl, ?_⟩
    have rl := hrows.1
    by_cases c1 : n < 300
    case neg =>
      refine if_false_of (decide_eq_false (by rw [rl]; omega)) ?_
      have e : n = 300 := by omega
      subst e
      exact ⟨_, rfl, k Hf H' p rows sf p0 hpf (hrows.same less_same) ⟨dx, lc, lt, cas, tas, X1⟩⟩
    refine if_true_of (decide_eq_true (by rw [rl]; omega)) ⟨_, fun σ' H' h => h, ?_⟩
    -- move_clocks(clocks)
    refine ⟨_, rfl, D, as, clk n w.clocks, rfl, X1.s _ _ hDf, O.same X1.s, clk_ok n ck, by rw [clk_len n ck]; exact h6, fun H2 O2 kp => ?_⟩
    have X2 := X1.framed (S := as) (fun b hb => by
      obtain ⟨x, d, e⟩ := O.mem hb
      exact ⟨_, e⟩) kp
    have lists : ∀ b xs, Hf b = some (.lst xs) → (if b ∈ as then H2 b else Hf b) = some (.lst xs) := fun b xs e => by
      rw [if_neg]
      · exact e
      · intro z
        obtain ⟨x, d, e2⟩ := O.mem z
        rw [e] at e2
        cases e2
    have sf2 : Same H0 (fun b => if b ∈ as then H2 b else Hf b) := fun b o e => by
      show (if b ∈ as then H2 b else Hf b) = some o
      rw [if_neg (fun z => by rw [as0 b z] at e; cases e)]
      exact sf b o e
    have O3 : Objs CC cF (fun _ => none) (fun b => if b ∈ as then H2 b else Hf b) as (clk (n + 1) w.clocks) := by
      rw [clk_succ]
      refine ⟨O2.len, O2.nd, O2.free, fun i a x hi hx => ?_⟩
      obtain ⟨d, e⟩ := O2.at_ i a x hi hx
      refine ⟨d, ?_⟩
      show (if a ∈ as then H2 a else Hf a) = _
      rw [if_pos (List.mem_of_getElem? hi)]
      exact e
    have hD2 : (fun b => if b ∈ as then H2 b else Hf b) D = some (.lst (as.map V.ref)) := lists D _ hDf
    have hp2 : (fun b => if b ∈ as then H2 b else Hf b) p = some (.lst rows) := lists p _ hpf
    have hrows2 : RowsAt (less (fun b => if b ∈ as then H2 b else Hf b) p) rows w.clocks n := hrows.moved fun b xs e => by
      have nb : b ≠ p := fun z => by rw [z, less_at] at e; cases e
      rw [less_ne nb] at e ⊢
      exact lists b xs e
    generalize (fun b => if b ∈ as then H2 b else Hf b) = Hf2 at *
    -- ahead.append([clock.ticks for clock in clocks])
    refine ⟨_, rfl, .inl ⟨rfl, _, SqL.of (X2.s _ _ hp2)⟩, _, rfl, D, rfl, ⟨_, SqL.of (X2.s _ _ hD2)⟩, fun q hq => lc_list (K := K) (a := D) (xs := as.map V.ref) (fun j H5 => ∃ H5f : Hp, Same Hf2 H5f ∧ H5f q = some (.lst (vN ((rowOf w.clocks (n + 1)).take j))) ∧ GX CG CC CT H5f H5 g dx lc lt cas tas w)
      ⟨_, same_new (X2.s.free hq), upd_same, X2.put (.inr hq)⟩ (fun j H5 _ ⟨_, s5, _, X5⟩ => SqL.of (X5.s _ _ (s5 _ _ hD2))) ?_ ?_⟩
    · rintro j y H5 hj ⟨H5f, s6, hq5, X5⟩
      obtain ⟨a, ha, rfl⟩ := ref_at hj
      have hlt : j < (clk (n + 1) w.clocks).length := by
        have h1 := (List.getElem?_eq_some_iff.mp ha).1
        have h2 := O3.len
        omega
      obtain ⟨c, hc⟩ : ∃ c, (clk (n + 1) w.clocks)[j]? = some c := ⟨_, List.getElem?_eq_getElem hlt⟩
      obtain ⟨dc, hca⟩ := O3.at_ j a c ha hc
      have hcn : (rowOf w.clocks (n + 1))[j]? = some c.ticks := by
        unfold rowOf
        rw [List.getElem?_map, hc]
        rfl
      refine ⟨rfl, ?_⟩
      refine ⟨_, rfl, a, CC, dc, _, _, rfl, X5.s _ _ (s6 _ _ hca), T.clC, T.c3, cF_ticks c, _, X5.s _ _ hq5, small (by
        rw [vN_len, List.length_take]
        have h3 := clk_len (n + 1) ck
        omega), _, same_stored s6 (X2.s.free hq), ?_, X5.put (.inl ⟨_, hq5⟩)⟩
      rw [upd_same, take_more hcn, vN_app]
      rfl
    rintro H6 ⟨H6f, s6, hq6, X6⟩
    have el2 : (as.map V.ref).length = (rowOf w.clocks (n + 1)).length := by
      rw [List.length_map, O3.len]
      unfold rowOf
      rw [List.length_map]
    rw [el2, List.take_length] at hq6
    have hp6 := s6 _ _ hp2
    have npq : q ≠ p := (ne_of_none (X2.s _ _ hp2) hq).symm
    refine ⟨p, _, _, rfl, rfl, X6.s _ _ hp6, small (by rw [rl]; omega), ?_⟩
    refine ⟨300 - (n + 1), by omega, n + 1, _, rows ++ [.ref q], rfl, c1, rfl, same_stored (sf2.trans s6) p0, (upd_ne nDp).trans (s6 _ _ hD2), upd_same, ?_, (O3.same s6).others asp, X6.put (.inl ⟨_, hp6⟩)⟩
    rw [less_upd]
    exact (hrows2.same (less_mono s6)).more ((less_ne npq).trans hq6)
end
end Tk

namespace Tk
open PySem PySem.Spec PyProof.Rows L2
abbrev pStop : Nat := 36
abbrev pLeft : Nat := 37
abbrev pNow : Nat := 38
abbrev pNext : Nat := 39
abbrev pShow : Nat := 40
abbrev sStop : Stmt := top pStop
abbrev sLeft : Stmt := top pLeft
abbrev sNow : Stmt := top pNow
abbrev sNext : Stmt := top pNext
abbrev sShow : Stmt := top pShow
def spCall0 (CG CC CT : Addr) (c : Ge03.Call) : Sp := fun vs H Q _ => ∃ (H0 : Hp) (g : Addr) (w : GWorld), vs = [.ref g] ∧ GameAt CG CC CT H0 H g w ∧ Ok w ∧ Gives CG CC CT H0 g (Ge03.step w c) Q
/-! ### some of the timers -/
section
variable {α : Type} {C CG CC CT : Addr} {f : α → List (Str × V)} {H0 H : Hp} {as cas tas : List Addr} {xs : List α} {g dx lc lt : Addr} {w : GWorld}
def kept (p : α → Bool) (as : List Addr) (xs : List α) : List Addr := ((as.zip xs).filter fun q => p q.2).map (·.1)
theorem kept_snd {p : α → Bool} (h : as.length = xs.length) : ((as.zip xs).filter fun q => p q.2).map (·.2) = xs.filter p := by
  have e : (as.zip xs).map (·.2) = xs := List.map_snd_zip (by omega)
  have e2 : ((as.zip xs).map (·.2)).filter p = ((as.zip xs).filter fun q => p q.2).map (·.2) := by
    rw [List.filter_map]
    rfl
  rw [← e2, e]
theorem kept_sub {p : α → Bool} : (kept p as xs).Sublist as := by
  unfold kept
  have h1 : (((as.zip xs).filter fun q => p q.2).map (·.1)).Sublist ((as.zip xs).map (·.1)) := List.filter_sublist.map _
  refine h1.trans ?_
  have e : ∀ (as : List Addr) (xs : List α), ((as.zip xs).map (·.1)).Sublist as := by
    intro as
    induction as with
    | nil => intro xs; exact List.Sublist.refl _
    | cons a as ih => intro xs; cases xs with
      | nil => exact List.nil_sublist _
      | cons x xs => exact (ih xs).cons_cons a
  exact e as xs
theorem Objs.kept {p : α → Bool} (h : Objs C f H0 H as xs) : Objs C f H0 H (kept p as xs) (xs.filter p) := by
  have sub := kept_sub (p := p) (as := as) (xs := xs)
  refine ⟨?_, sub.nodup h.nd, fun a ha => h.free a (sub.subset ha), fun j a x hj hx => ?_⟩
  · rw [← kept_snd h.len]
    unfold Tk.kept
    rw [List.length_map, List.length_map]
  · rw [← kept_snd h.len, List.getElem?_map] at hx
    unfold Tk.kept at hj
    rw [List.getElem?_map] at hj
    cases e : ((as.zip xs).filter fun q => p q.2)[j]? with
    | none => rw [e] at hj; cases hj
    | some z =>
      rw [e] at hj hx
      have hz : z ∈ as.zip xs := (List.mem_filter.mp (List.mem_of_getElem? e)).1
      obtain ⟨i, hi⟩ := List.mem_iff_getElem?.mp hz
      rw [List.getElem?_zip_eq_some] at hi
      have e1 : z.1 = a := Option.some.inj hj
      have e2 : z.2 = x := Option.some.inj hx
      rw [← e1, ← e2]
      exact h.at_ i z.1 z.2 hi.1 hi.2
theorem kept_more {p : α → Bool} {i : Nat} {a : Addr} {x : α} (ha : as[i]? = some a) (hx : xs[i]? = some x) : kept p (as.take (i + 1)) (xs.take (i + 1)) = if p x = true then kept p (as.take i) (xs.take i) ++ [a] else kept p (as.take i) (xs.take i) := by
  unfold kept
  have h1 := (List.getElem?_eq_some_iff.mp ha).1
  have h2 := (List.getElem?_eq_some_iff.mp hx).1
  rw [take_more ha, take_more hx, List.zip_append (by rw [List.length_take, List.length_take]; omega), List.filter_append, List.map_append]
  cases e : p x with
  | true => simp [e]
  | false => simp [e]
/-- another list of timers becomes the game's -/
theorem GX.newTimers (h : GX CG CC CT H0 H g dx lc lt cas tas w) {D : Addr} {ts : List GTimer} {as : List Addr} (hD : H0 D = some (.lst (as.map V.ref))) (O : Objs CT tF H0 H as ts) (sub : ∀ a ∈ as, a ∈ tas) :
    GX CG CC CT (less H0 D) (upd H g (.ins CG dx (gF w lc D))) g dx lc D cas as { w with timers := ts } := by
  obtain ⟨ngs, nls, _, _, _⟩ := h.apart (p := D) (.inl ⟨_, hD⟩)
  obtain ⟨n1, n2⟩ := h.g_ne
  refine ⟨same_stored (less_same.trans h.s) (less_same.free h.g0), less_same.free h.g0, upd_same, less_same.free h.lc0, (upd_ne n1).trans h.hc, less_at, (upd_ne ngs.symm).trans (h.s _ _ hD), nls, ?_, ?_⟩
  · exact (h.cl.weak less_same).others fun a ha => (h.cas_ne ha).1
  · exact (O.weak less_same).others fun a ha => (h.tas_ne (sub a ha)).1
end
theorem any_find {ts : List GTimer} {n : Nat} : (ts.any fun x => x.number == n) = (ts.find? fun x => x.number == n).isSome := by
  induction ts with
  | nil => rfl
  | cons a ts ih =>
    rw [List.any_cons, List.find?_cons]
    cases e : a.number == n with
    | true => rfl
    | false => rw [ih]; rfl
theorem find_at {ts : List GTimer} {n : Nat} {t : GTimer} (h : (ts.find? fun x => x.number == n) = some t) : t ∈ ts := List.mem_of_find?_eq_some h
section
variable {P : Program} {w : World} {K : PySem.W.Frag} {mg : Str → Option Value} {base : Heap} {CG CC CT : Addr}
theorem scSt : FnScope ["game", "number", "timer"] ["game", "number"] (defScope sStop) := ⟨rfl, rfl, rfl, by decide +kernel, rfl, by decide +kernel, by decide +kernel⟩
theorem ok_stop {f fF : Addr} {fd fdF : FuncData} (F : Fun K "stop_timer" "stop_timer" sStop f fd) (T : Txt K mg CG CC CT) (GF : FnOk P w K mg base CX0 1 fF fdF ["self", "number"] (spFind CG CC CT)) (bF : Binds K fdF ["self", "number"] []) (mF : Meth K CG "find_timer" fF) :
    FnOk P w K mg base CX0 2 f fd ["game", "number"] (spCall1 CG CC CT .halt_) := by
  refine F.ok scSt (fun vs H Q E h => ?_) (fun cdv A outer s H vs Q E hr h => ?_)
  · obtain ⟨H0, g, w, a, rfl, _⟩ := h
    rfl
  · obtain ⟨H0, g, w, n, rfl, R, ok, k⟩ := h
    refine ⟨_, pss_cons (ps_if (pt_cmp (pc_isN (pe_meth (pv 0) T.clG mF GF hr bF .nil pass0 (pa_cons (pv 1) pa_nil)))) (pss_one (ps_ret (pe_lst (pa_cons (pgi T.nst) pa_nil)))) pss_nil)
      (pss_cons (ps_fld (pv 0) (pe_lc (own := [("timer", 2)]) (g := gName 2) (tt := tTest (tOp rNe (tFld K (tVar 2) "number") (tVar 1))) (te := tVar 2) rfl scSt.nd (pi_list (pe_fld (pv 0) rfl)) (blkOk_by (N := ["game", "number", "timer"]) (sc := defScope sStop) (by decide +kernel)) (fun _ _ _ _ _ => pg_name (i := 2) scSt.nd rfl (Or.inl rfl))
        (fun _ _ _ _ _ => pts_one (pt_cmpR op_ne (pe_fld (pv 2) rfl) (pv 1) (nomark _))) (fun _ _ _ _ _ => pv 2)) rfl)
      (pss_one (ps_ret (pe_lst (pa_cons (pe_callB call_len_seq (by rfl) T.len PySem.boot_len (pa_cons (pe_fld (pv 0) rfl) pa_nil)) pa_nil))))), ?_⟩
    have sz : (1 : Nat) ≤ sizeLine := by decide
    obtain ⟨dx, lc, lt, cas, tas, X⟩ := id R
    refine ⟨_, rfl, g, dx, _, rfl, X.hg, gF_no _ _ _ (by decide +kernel), _, rfl, H0, g, dx, lc, lt, cas, tas, w, n, rfl, X, fun i t a ht ha hf => ?yes, fun hf => ?no⟩
    case no =>
      have e : Ge03.step w (.halt_ n) = (w, [-2]) := by
        show (if (w.timers.any fun x => x.number == n) = false then _ else _) = _
        rw [any_find, hf]
        rfl
      rw [e] at k
      exact ⟨_, rfl, if_true_of (decide_eq_true rfl) ⟨sz, fun p hp => k.new R hp rfl⟩⟩
    have e : Ge03.step w (.halt_ n) = ({ w with timers := w.timers.filter fun x => x.number != n }, Ge03.ints [(w.timers.filter fun x => x.number != n).length]) := by
      show (if (w.timers.any fun x => x.number == n) = false then _ else _) = _
      rw [any_find, hf]
      rfl
    rw [e] at k
    refine ⟨_, rfl, if_false_of (decide_eq_false fun z => nomatch z) ?_⟩
    refine ⟨_, rfl, g, CG, dx, _, _, rfl, X.hg, T.clG, T.g7, gF_timers _ _ _, lt, rfl, ⟨_, SqL.of X.ht⟩, fun D hD => lc_list (K := K) (a := lt) (xs := tas.map V.ref) (fun j H5 => ∃ H5f : Hp, Same H0 H5f ∧ H5f D = some (.lst ((kept (fun x : GTimer => x.number != n) (tas.take j) (w.timers.take j)).map V.ref)) ∧ GX CG CC CT H5f H5 g dx lc lt cas tas w)
      ⟨_, same_new (X.s.free hD), upd_same, X.put (.inr hD)⟩ (fun j H5 _ ⟨_, _, _, X5⟩ => SqL.of X5.ht) ?_ ?_⟩
    · rintro j y H5 hj ⟨H5f, s5, hD5, X5⟩
      obtain ⟨b, hb, rfl⟩ := ref_at hj
      have hlt : j < w.timers.length := by
        have h1 := (List.getElem?_eq_some_iff.mp hb).1
        have h2 := X.tm.len
        omega
      obtain ⟨u, hu⟩ : ∃ u, w.timers[j]? = some u := ⟨_, List.getElem?_eq_getElem hlt⟩
      obtain ⟨du, hub⟩ := X5.tm.at_ j b u hb hu
      refine ⟨rfl, ?_⟩
      refine ⟨_, rfl, b, CT, du, _, _, rfl, hub, T.clT, T.t1, tF_number u, _, rfl, rfl, _, rfl, ?_⟩
      have km := kept_more (p := fun x : GTimer => x.number != n) hb hu
      by_cases c : u.number = n
      · refine if_false_of (by rw [c]; simp) ?_
        refine ⟨H5f, s5, ?_, X5⟩
        rw [km, if_neg (by simp [c])]
        exact hD5
      · refine if_true_of (by
          rw [decide_eq_false fun z => c (by injection z with z; omega)]
          rfl) ?_
        refine ⟨_, rfl, _, X5.s _ _ hD5, small (by
          have h1 := (kept_sub (p := fun x : GTimer => x.number != n) (as := tas.take j) (xs := w.timers.take j)).length_le
          have h2 : (tas.take j).length ≤ j := List.length_take_le _ _
          have h3 := ok.t12
          rw [List.length_map]
          omega), _, same_stored s5 (X.s.free hD), ?_, X5.put (.inl ⟨_, hD5⟩)⟩
        rw [upd_same, km, if_pos (by simp [c]), List.map_append]
        rfl
    rintro H5 ⟨H5f, s5, hD5, X5⟩
    have el : (tas.map V.ref).length = w.timers.length := by rw [List.length_map, X.tm.len]
    have et : tas.take w.timers.length = tas := by rw [← X.tm.len, List.take_length]
    rw [el, List.take_length, et] at hD5
    refine ⟨_, rfl, g, CG, dx, _, rfl, X5.hg, T.clG, T.g7, (by show 8 < 1000; decide), ?_⟩
    rw [gF_putTimers]
    have O5 := X5.tm.kept (p := fun x : GTimer => x.number != n)
    have X6 := X5.newTimers hD5 O5 fun a ha => kept_sub.subset ha
    refine ⟨_, rfl, g, CG, dx, _, _, rfl, X6.hg, T.clG, T.g7, gF_timers _ _ _, D, _, rfl, .inl (SqL.of X6.ht), sz, fun p hp => ?_⟩
    have s6 : Same H0 (less H5f D) := fun b o e => by
      have nb : b ≠ D := fun z => by rw [z, X.s.free hD] at e; cases e
      rw [less_ne nb]
      exact s5 b o e
    refine k.new ⟨dx, lc, D, cas, _, X6.weak s6⟩ hp ?_
    rw [List.length_map, O5.len]
    rfl
theorem scLe : FnScope ["game", "number", "timer", "clock"] ["game", "number"] (defScope sLeft) := ⟨rfl, rfl, rfl, by decide +kernel, rfl, by decide +kernel, by decide +kernel⟩
theorem ok_left {f fF : Addr} {fd fdF : FuncData} (F : Fun K "tell_left" "tell_left" sLeft f fd) (T : Txt K mg CG CC CT) (GF : FnOk P w K mg base CX0 1 fF fdF ["self", "number"] (spFind CG CC CT)) (bF : Binds K fdF ["self", "number"] []) (mF : Meth K CG "find_timer" fF) :
    FnOk P w K mg base CX0 2 f fd ["game", "number"] (spCall1 CG CC CT .left) := by
  refine F.ok scLe (fun vs H Q E h => ?_) (fun cdv A outer s H vs Q E hr h => ?_)
  · obtain ⟨H0, g, w, a, rfl, _⟩ := h
    rfl
  · obtain ⟨H0, g, w, n, rfl, R, ok, k⟩ := h
    refine ⟨_, pss_cons (ps_set (i := 2) scLe.nd rfl (Or.inl rfl) (pe_meth (pv 0) T.clG mF GF hr bF .nil pass0 (pa_cons (pv 1) pa_nil)))
      (pss_cons (ps_if (pt_cmp (pc_isN (pv 2))) (pss_one (ps_ret (pe_lst (pa_cons (pgi T.nst) pa_nil)))) pss_nil)
      (pss_cons (ps_set (i := 3) scLe.nd rfl (Or.inl rfl) (pe_ix ix_list (pe_fld (pv 0) rfl) (pe_fld (pv 2) rfl) (fun _ _ => rfl)))
      (pss_one (ps_ret (pe_lst (pa_cons (pe_fld (pv 2) rfl) (pa_cons (pe_op op_sub (pe_fld (pv 2) rfl) (pe_fld (pv 3) rfl)) (pa_cons (pe_fld (pv 2) rfl) pa_nil)))))))), ?_⟩
    obtain ⟨dx, lc, lt, cas, tas, X⟩ := id R
    refine ⟨_, rfl, g, dx, _, rfl, X.hg, gF_no _ _ _ (by decide +kernel), _, rfl, H0, g, dx, lc, lt, cas, tas, w, n, rfl, X, fun i t a ht ha hf => ?yes, fun hf => ?no⟩
    case no =>
      have e : Ge03.step w (.left n) = (w, [-2]) := by
        show (w, match w.timers.find? fun x => x.number == n with | none => _ | some x => _) = _
        rw [hf]
      rw [e] at k
      exact ⟨_, rfl, _, rfl, if_true_of (decide_eq_true rfl) ⟨(by decide : (1 : Nat) ≤ sizeLine), fun p hp => k.new R hp rfl⟩⟩
    obtain ⟨t1, t2, t3, t4⟩ := ok.tm.ok t (List.mem_of_getElem? ht)
    obtain ⟨dt, hta⟩ := X.tm.at_ i a t ha ht
    obtain ⟨c, hc⟩ : ∃ c, w.clocks[t.clock]? = some c := ⟨_, List.getElem?_eq_getElem t1⟩
    obtain ⟨ca, hca'⟩ : ∃ ca, cas[t.clock]? = some ca := ⟨_, List.getElem?_eq_getElem (by rw [X.cl.len]; exact t1)⟩
    obtain ⟨dc, hca⟩ := X.cl.at_ t.clock ca c hca' hc
    have ec : tk w.clocks t.clock = c.ticks := by
      unfold tk
      rw [hc]
      rfl
    have e : Ge03.step w (.left n) = (w, Ge03.ints [t.clock, t.due - c.ticks, t.again]) := by
      show (w, match w.timers.find? fun x => x.number == n with | none => _ | some x => Ge03.ints [x.clock, x.due - ((Ge03.clockOf w x.clock).map fun c : GClock => c.ticks).getD 0, x.again]) = _
      rw [hf]
      show (w, Ge03.ints [t.clock, t.due - ((Ge03.clockOf w t.clock).map fun c : GClock => c.ticks).getD 0, t.again]) = _
      rw [ok.clockOf]
      show (w, Ge03.ints [t.clock, t.due - ((w.clocks[t.clock]?).map fun c : GClock => c.ticks).getD 0, t.again]) = _
      rw [hc]
      rfl
    rw [e] at k
    refine ⟨_, rfl, _, rfl, if_false_of (decide_eq_false fun z => nomatch z) ?_⟩
    refine ⟨_, rfl, g, CG, dx, _, _, rfl, X.hg, T.clG, T.g6, gF_clocks _ _ _, _, rfl, a, CT, dt, _, _, rfl, hta, T.clT, T.t2, tF_clock t, lc, _, (t.clock : Int), _, rfl, rfl, SqL.of X.hc, atI_nat (ref_get hca'), ?_⟩
    refine ⟨_, rfl, a, CT, dt, _, _, rfl, hta, T.clT, T.t2, tF_clock t, _, rfl, a, CT, dt, _, _, rfl, hta, T.clT, T.t3, tF_due t, _, rfl, ca, CC, dc, _, _, rfl, hca, T.clC, T.c3, cF_ticks c, _, _, rfl, rfl, _, rfl, a, CT, dt, _, _, rfl, hta, T.clT, T.t4, tF_again t, (by show 3 ≤ sizeLine; decide), fun p hp => ?_⟩
    refine k.new R hp ?_
    have e2 : (t.due : Int) - (c.ticks : Int) = ((t.due - c.ticks : Nat) : Int) := by omega
    show [V.int (t.clock : Int), V.int ((t.due : Int) - (c.ticks : Int)), V.int (t.again : Int)] = _
    rw [e2]
    rfl
theorem scNo : FnScope ["game", "number", "clock", "above"] ["game", "number"] (defScope sNow) := ⟨rfl, rfl, rfl, by decide +kernel, rfl, by decide +kernel, by decide +kernel⟩
theorem ok_now {f fH : Addr} {fd fdH : FuncData} (F : Fun K "tell_now" "tell_now" sNow f fd) (T : Txt K mg CG CC CT) (GH : FnOk P w K mg base CX0 1 fH fdH ["self", "number"] (spHas CG CC CT)) (bH : Binds K fdH ["self", "number"] []) (mH : Meth K CG "has_clock" fH) :
    FnOk P w K mg base CX0 2 f fd ["game", "number"] (spCall1 CG CC CT .now) := by
  refine F.ok scNo (fun vs H Q E h => ?_) (fun cdv A outer s H vs Q E hr h => ?_)
  · obtain ⟨H0, g, w, a, rfl, _⟩ := h
    rfl
  · obtain ⟨H0, g, w, o, rfl, R, ok, k⟩ := h
    refine ⟨_, pss_cons (ps_if (pt_not (pt_val (pe_meth (pv 0) T.clG mH GH hr bH .nil pass0 (pa_cons (pv 1) pa_nil)))) (pss_one (ps_ret (pe_lst (pa_cons (pgi T.nsc) pa_nil)))) pss_nil)
      (pss_cons (ps_set (i := 2) scNo.nd rfl (Or.inl rfl) (pe_ix ix_list (pe_fld (pv 0) rfl) (pv 1) (fun _ _ => rfl)))
      (pss_cons (ps_set (i := 3) scNo.nd rfl (Or.inl rfl) (pe_ifExp (pt_cmp (pc_isN (pe_fld (pv 2) rfl))) pe_int (pe_op op_add (pe_fld (pv 2) rfl) pe_int)))
      (pss_one (ps_ret (pe_lst (pa_cons (pe_fld (pv 2) rfl) (pa_cons (pe_fld (pv 2) rfl) (pa_cons (pe_fld (pv 2) rfl) (pa_cons (pv 3) pa_nil))))))))), ?_⟩
    obtain ⟨dx, lc, lt, cas, tas, X⟩ := id R
    refine ⟨_, rfl, g, dx, _, rfl, X.hg, gF_no _ _ _ (by decide +kernel), _, rfl, H0, g, w, o, rfl, R, _, rfl, ?_⟩
    have es : Ge03.step w (.now o) = (w, match w.clocks[o]? with
        | none => [-2]
        | some x => Ge03.ints [x.ticks, x.rest, x.speed, x.on]) := by
      show (w, match Ge03.clockOf w o with | none => _ | some x => _) = _
      rw [ok.clockOf]
    by_cases c2 : o < w.clocks.length
    case neg =>
      have e : Ge03.step w (.now o) = (w, [-2]) := by
        rw [es, List.getElem?_eq_none (by omega)]
      rw [e] at k
      exact if_true_of (by rw [decide_eq_false c2]; rfl) ⟨(by decide : (1 : Nat) ≤ sizeLine), fun p hp => k.new R hp rfl⟩
    refine if_false_of (by rw [decide_eq_true c2]; rfl) ?_
    obtain ⟨c, hc⟩ : ∃ c, w.clocks[o]? = some c := ⟨_, List.getElem?_eq_getElem c2⟩
    obtain ⟨ca, hca'⟩ : ∃ ca, cas[o]? = some ca := ⟨_, List.getElem?_eq_getElem (by rw [X.cl.len]; exact c2)⟩
    obtain ⟨dc, hca⟩ := X.cl.at_ o ca c hca' hc
    have e : Ge03.step w (.now o) = (w, Ge03.ints [c.ticks, c.rest, c.speed, c.on]) := by rw [es, hc]
    rw [e] at k
    refine ⟨_, rfl, g, CG, dx, _, _, rfl, X.hg, T.clG, T.g6, gF_clocks _ _ _, _, rfl, lc, _, (o : Int), _, rfl, rfl, SqL.of X.hc, atI_nat (ref_get hca'), ?_⟩
    refine ⟨_, rfl, ca, CC, dc, _, _, rfl, hca, T.clC, T.c1, cF_on c, _, rfl, ?_⟩
    have fin : ∀ z : Int, z = ((c.on : Nat) : Int) → ∀ p, H p = none → Q (.ref p) (upd H p (.lst [.int (c.ticks : Int), .int (c.rest : Int), .int (c.speed : Int), .int z])) := fun z hz p hp => by
      subst hz
      exact k.new R hp rfl
    cases eo : c.on with
    | zero =>
      refine if_true_of (decide_eq_true rfl) ?_
      refine ⟨_, rfl, ca, CC, dc, _, _, rfl, hca, T.clC, T.c3, cF_ticks c, _, rfl, ca, CC, dc, _, _, rfl, hca, T.clC, T.c4, cF_rest c, _, rfl, ca, CC, dc, _, _, rfl, hca, T.clC, T.c2, cF_speed c, _, rfl, (by show 4 ≤ sizeLine; decide), ?_⟩
      exact fin 0 (by rw [eo]; rfl)
    | succ m =>
      refine if_false_of (decide_eq_false fun z => nomatch z) ?_
      refine ⟨_, rfl, ca, CC, dc, _, _, rfl, hca, T.clC, T.c1, (cF_on c).trans (by rw [eo]; rfl), _, _, rfl, rfl, ?_⟩
      refine ⟨_, rfl, ca, CC, dc, _, _, rfl, hca, T.clC, T.c3, cF_ticks c, _, rfl, ca, CC, dc, _, _, rfl, hca, T.clC, T.c4, cF_rest c, _, rfl, ca, CC, dc, _, _, rfl, hca, T.clC, T.c2, cF_speed c, _, rfl, (by show 4 ≤ sizeLine; decide), ?_⟩
      exact fin ((m : Int) + 1) (by rw [eo]; omega)
theorem scSh : FnScope ["game"] ["game"] (defScope sShow) := ⟨rfl, rfl, rfl, by decide +kernel, rfl, by decide +kernel, by decide +kernel⟩
theorem ok_show {f : Addr} {fd : FuncData} (F : Fun K "show" "show" sShow f fd) (T : Txt K mg CG CC CT) : FnOk P w K mg base CX0 1 f fd ["game"] (spCall0 CG CC CT .shows) := by
  refine F.ok scSh (fun vs H Q E h => ?_) (fun cdv A outer s H vs Q E hr h => ?_)
  · obtain ⟨H0, g, w, rfl, _⟩ := h
    rfl
  · obtain ⟨H0, g, w, rfl, R, ok, k⟩ := h
    refine ⟨_, pss_one (ps_ret (pe_lst (pa_cons (pe_fld (pv 0) rfl) (pa_cons (pe_fld (pv 0) rfl) (pa_cons (pe_fld (pv 0) rfl) (pa_cons (pe_callB call_len_seq (by rfl) T.len PySem.boot_len (pa_cons (pe_fld (pv 0) rfl) pa_nil)) (pa_cons (pe_callB call_len_seq (by rfl) T.len PySem.boot_len (pa_cons (pe_fld (pv 0) rfl) pa_nil)) pa_nil))))))), ?_⟩
    obtain ⟨dx, lc, lt, cas, tas, X⟩ := id R
    refine ⟨_, rfl, g, CG, dx, _, _, rfl, X.hg, T.clG, T.g4, gF_ticks _ _ _, _, rfl, g, CG, dx, _, _, rfl, X.hg, T.clG, T.g3, gF_rest _ _ _, _, rfl, g, CG, dx, _, _, rfl, X.hg, T.clG, T.g5, gF_lost _ _ _, _, rfl, g, CG, dx, _, _, rfl, X.hg, T.clG, T.g6, gF_clocks _ _ _, lc, _, rfl, .inl (SqL.of X.hc),
      _, rfl, g, CG, dx, _, _, rfl, X.hg, T.clG, T.g7, gF_timers _ _ _, lt, _, rfl, .inl (SqL.of X.ht), (by show 5 ≤ sizeLine; decide), fun p hp => ?_⟩
    refine k.new R hp ?_
    rw [List.length_map, List.length_map, X.cl.len, X.tm.len]
    rfl
end
end Tk

namespace Tk
open PySem PySem.Spec PyProof.Rows L2
/-! ### what rings next, told by the program -/
def nxt (l : List GClock) (t : GTimer) : Option (Nat × Nat) := (firstAt 300 l t.clock t.due).map fun n => (t.number, n)
def flat2 (l : List (Nat × Nat)) : List Nat := l.flatMap fun x => [x.1, x.2]
theorem flat2_len : ∀ l, (flat2 l).length = 2 * l.length
  | [] => rfl
  | a :: l => by
    have := flat2_len l
    unfold flat2 at this ⊢
    rw [List.flatMap_cons, List.length_append, this]
    simp
    omega
theorem flat2_app (a b : List (Nat × Nat)) : flat2 (a ++ b) = flat2 a ++ flat2 b := List.flatMap_append
theorem fm_congr {α β : Type} {f g : α → Option β} : ∀ {l : List α}, (∀ x ∈ l, f x = g x) → l.filterMap f = l.filterMap g
  | [], _ => rfl
  | a :: l, h => by
    rw [List.filterMap_cons, List.filterMap_cons, h a List.mem_cons_self, fm_congr fun x hx => h x (List.mem_cons_of_mem _ hx)]
theorem step_next {w : GWorld} (ok : Ok w) : Ge03.step w .next = (w, Ge03.ints ((w.timers.filterMap (nxt w.clocks)).length :: flat2 (w.timers.filterMap (nxt w.clocks)))) := by
  have e : (w.timers.filterMap fun t => (Ge03.till 300 w t.number).map fun n => (t.number, n)) = w.timers.filterMap (nxt w.clocks) := by
    apply fm_congr
    intro t ht
    unfold nxt
    rw [till_first 300 ok ht]
  show (w, Ge03.ints ((w.timers.filterMap fun t => (Ge03.till 300 w t.number).map fun n => (t.number, n)).length :: flat2 (w.timers.filterMap fun t => (Ge03.till 300 w t.number).map fun n => (t.number, n)))) = _
  rw [e]
section
variable {P : Program} {w : World} {K : PySem.W.Frag} {mg : Str → Option Value} {base : Heap} {CG CC CT : Addr}
theorem scNx : FnScope ["game", "ahead", "told", "timer", "ticks"] ["game"] (defScope sNext) := ⟨rfl, rfl, rfl, by decide +kernel, rfl, by decide +kernel, by decide +kernel⟩
theorem ok_next {f fA fF : Addr} {fd fdA fdF : FuncData} (F : Fun K "tell_next" "tell_next" sNext f fd) (T : Txt K mg CG CC CT) (GA : FnOk P w K mg base CX0 4 fA fdA ["self"] (spAhead CG CC CT)) (bA : Binds K fdA ["self"] []) (mA : Meth K CG "foresee_clocks" fA)
    (GF : FnOk P w K mg base CX0 1 fF fdF ["self", "ahead"] (spFirst CT)) (bF : Binds K fdF ["self", "ahead"] []) (mF : Meth K CT "first_ring" fF) :
    FnOk P w K mg base CX0 5 f fd ["game"] (spCall0 CG CC CT .next) := by
  refine F.ok scNx (fun vs H Q E h => ?_) (fun cdv A outer s H vs Q E hr h => ?_)
  · obtain ⟨H0, g, w, rfl, _⟩ := h
    rfl
  · obtain ⟨H0, g, w, rfl, R, ok, k⟩ := h
    have hr1 : Room 1 _ := hr.mono (by decide)
    refine ⟨_, pss_cons (ps_set (i := 1) scNx.nd rfl (Or.inl rfl) (pe_meth0 (pv 0) T.clG mA GA hr bA .nil pass0))
      (pss_cons (ps_set (i := 2) scNx.nd rfl (Or.inl rfl) (pe_lst pa_nil))
      (pss_cons (ps_for PassesOwn.never rfl (pi_list (pe_fld (pv 0) rfl)) (pg_name (i := 3) scNx.nd rfl (Or.inl rfl))
        (pss_cons (ps_set (i := 4) scNx.nd rfl (Or.inl rfl) (pe_meth (pv 3) T.clT mF GF hr1 bF .nil pass0 (pa_cons (pv 1) pa_nil)))
        (pss_one (ps_if (pt_cmp (pc_notN (pv 4))) (pss_one (ps_expr (pe_bm PySem.F.plainAttrs_list PySem.F.slot_list_extend PySem.F.type_list_extend mt_extend (pv 2) (pa_cons (pe_lst (pa_cons (pe_fld (pv 3) rfl) (pa_cons (pv 4) pa_nil))) pa_nil)))) pss_nil))))
      (pss_one (ps_ret (pe_op op_cat (pe_lst (pa_cons (pe_op op_fdiv (pe_callB call_len_seq (by rfl) T.len PySem.boot_len (pa_cons (pv 2) pa_nil)) pe_int) pa_nil)) (pv 2)))))), ?_⟩
    rw [step_next ok] at k
    obtain ⟨dx0, lc0, lt0, cas0, tas0, X0⟩ := id R
    refine ⟨_, rfl, g, dx0, _, rfl, X0.hg, gF_no _ _ _ (by decide +kernel), H0, g, w, rfl, R, ok.ck, ok.c6, fun H1 H2 ah rows s1 ah0 hah hrows R1 => ?_⟩
    refine ⟨Nat.zero_le _, fun q hq => ?_⟩
    have q1 : H1 q = none := R1.same.free hq
    have q0 : H0 q = none := s1.free q1
    obtain ⟨dx, lc, lt, cas, tas, X1⟩ := id R1
    have Xq := X1.put (p := q) (o := .lst []) (.inr hq)
    have ml : ∀ i, i ≤ w.timers.length → ((w.timers.take i).filterMap (nxt w.clocks)).length ≤ 12 := fun i hi => by
      have h1 := List.length_filterMap_le (nxt w.clocks) (w.timers.take i)
      have h2 : (w.timers.take i).length ≤ i := List.length_take_le _ _
      have h3 := ok.t12
      omega
    refine ⟨_, rfl, g, CG, dx, _, _, rfl, Xq.hg, T.clG, T.g7, gF_timers _ _ _, lt, rfl, ⟨_, SqL.of Xq.ht⟩, for_list (K := K) (a := lt) (xs := tas.map V.ref) (fun i σ H' => ∃ (v3 v4 : Option V) (Hf : Hp), σ = [some (.ref g), some (.ref ah), some (.ref q), v3, v4] ∧ i ≤ w.timers.length ∧ Same H1 Hf ∧ Hf q = some (.lst (vN (flat2 ((w.timers.take i).filterMap (nxt w.clocks))))) ∧ GX CG CC CT Hf H' g dx lc lt cas tas w)
      ⟨none, none, _, rfl, Nat.zero_le _, same_new q1, upd_same, Xq⟩ (fun i σ H' _ ⟨_, _, _, _, _, _, _, X2⟩ => SqL.of X2.ht) ?_ ?_⟩
    · rintro i y σ H' hi ⟨v3, v4, Hf, rfl, hil, sf, hqf, X2⟩
      obtain ⟨a, ha, rfl⟩ := ref_at hi
      have hlt : i < w.timers.length := by
        have h1 := (List.getElem?_eq_some_iff.mp ha).1
        have h2 := X1.tm.len
        omega
      obtain ⟨t, ht⟩ : ∃ t, w.timers[i]? = some t := ⟨_, List.getElem?_eq_getElem hlt⟩
      obtain ⟨dt, hta⟩ := X2.tm.at_ i a t ha ht
      have tmore : (w.timers.take (i + 1)).filterMap (nxt w.clocks) = (w.timers.take i).filterMap (nxt w.clocks) ++ (nxt w.clocks t).toList := by
        rw [take_more ht, List.filterMap_append]
        congr 1
      refine ⟨_, rfl, a, dt, _, rfl, hta, tF_first t, _, rfl, a, ah, dt, t, w.clocks, rows, rfl, hta, X2.s _ _ (sf _ _ hah), hrows.same (sf.trans X2.s), ok.ck, (ok.tm.ok t (List.mem_of_getElem? ht)).1, fun H3 s3 => ?_⟩
      have X3 := X2.grown s3
      have hta3 := s3 _ _ hta
      unfold nxt at tmore
      cases hfa : firstAt 300 w.clocks t.clock t.due with
      | none =>
        rw [hfa] at tmore
        refine ⟨_, rfl, _, rfl, if_false_of rfl ?_⟩
        refine ⟨_, _, Hf, rfl, hlt, sf, ?_, X3⟩
        have e : (w.timers.take (i + 1)).filterMap (nxt w.clocks) = (w.timers.take i).filterMap (nxt w.clocks) := tmore.trans (List.append_nil _)
        rw [e]
        exact hqf
      | some n =>
        rw [hfa] at tmore
        have e : (w.timers.take (i + 1)).filterMap (nxt w.clocks) = (w.timers.take i).filterMap (nxt w.clocks) ++ [(t.number, n)] := tmore
        refine ⟨_, rfl, _, rfl, if_true_of rfl ?_⟩
        have hq3 := X3.s _ _ hqf
        refine ⟨_, rfl, .inl ⟨rfl, _, SqL.of hq3⟩, _, rfl, a, CT, dt, _, _, rfl, hta3, T.clT, T.t1, tF_number t, _, rfl, (by show 2 ≤ sizeLine; decide), fun z hz => ?_⟩
        have nqz : q ≠ z := ne_of_none hq3 hz
        have fl := flat2_len ((w.timers.take i).filterMap (nxt w.clocks))
        have m1 := ml i hil
        refine ⟨q, z, _, _, rfl, rfl, (upd_ne nqz).trans hq3, upd_same, Nat.le_of_lt (small (by rw [vN_len, fl]; show _ + 2 ≤ _; omega)), ?_⟩
        have X4 := X3.put (p := z) (o := .lst [V.int (t.number : Int), oV (some n)]) (.inr hz)
        have z0 : Hf z = none := X3.s.free hz
        have hq4 : upd Hf z (.lst [V.int (t.number : Int), oV (some n)]) q = _ := (upd_ne nqz).trans hqf
        have X5 := X4.put (p := q) (o := .lst (vN (flat2 ((w.timers.take i).filterMap (nxt w.clocks))) ++ [V.int (t.number : Int), oV (some n)])) (.inl ⟨_, hq4⟩)
        refine ⟨_, _, _, rfl, hlt, same_stored (sf.trans (same_new z0)) q1, ?_, X5⟩
        rw [upd_same, e, flat2_app, vN_app]
        rfl
    · rintro σ H' ⟨v3, v4, Hf, rfl, hil, sf, hqf, X2⟩
      have el : (tas.map V.ref).length = w.timers.length := by rw [List.length_map, X1.tm.len]
      have m1 := ml w.timers.length (Nat.le_refl _)
      rw [el, List.take_length] at hqf
      rw [List.take_length] at m1
      generalize w.timers.filterMap (nxt w.clocks) = L at *
      have fl := flat2_len L
      have hqH := X2.s _ _ hqf
      refine ⟨_, rfl, q, _, rfl, .inl (SqL.of hqH), _, _, rfl, rfl, ⟨by decide, by decide⟩, (by show 1 ≤ sizeLine; decide), fun z hz => ?_⟩
      have nqz : q ≠ z := ne_of_none hqH hz
      refine ⟨_, rfl, z, q, _, _, rfl, rfl, upd_same, (upd_ne nqz).trans hqH, Nat.le_of_lt (small (by rw [vN_len, fl]; show 1 + _ ≤ _; omega)), fun y hy => ?_⟩
      have R4 : GameAt CG CC CT _ _ g w := ⟨dx, lc, lt, cas, tas, X2.put (p := z) (o := .lst [V.int (((vN (flat2 L)).length : Int) / 2)]) (.inr hz)⟩
      have s4 : Same H0 (upd Hf z (.lst [V.int (((vN (flat2 L)).length : Int) / 2)])) := (s1.trans sf).trans (same_new (X2.s.free hz))
      have k2 : Gives CG CC CT (upd Hf z (.lst [V.int (((vN (flat2 L)).length : Int) / 2)])) g (w, Ge03.ints (L.length :: flat2 L)) Q := fun H5 H6 r s5 r5 hr5 R5 => k H5 H6 r (s4.trans s5) (s4.free r5) hr5 R5
      refine k2.new R4 hy ?_
      rw [vI_ints]
      have e3 : (((vN (flat2 L)).length : Nat) : Int) / 2 = ((L.length : Nat) : Int) := by
        rw [vN_len, fl]
        omega
      show [V.int ((((vN (flat2 L)).length : Nat) : Int) / 2)] ++ vN (flat2 L) = _
      rw [e3]
      rfl
end
end Tk

namespace Tk
open PySem PySem.Spec PyProof.Rows L2
abbrev pAnswerCall : Nat := 41
abbrev pAnswers : Nat := 42
abbrev sAnswerCall : Stmt := top pAnswerCall
abbrev sAnswers : Stmt := top pAnswers
/-- answer_call's: a call as a list of numbers -/
def spAnswer (CG CC CT : Addr) : Sp := fun vs H Q _ => ∃ (H0 : Hp) (g a : Addr) (w : GWorld) (x : Ge03.Call), vs = [.ref g, .ref a] ∧ H0 a = some (.lst (vI (enc x))) ∧ GameAt CG CC CT H0 H g w ∧ Ok w ∧ Gives CG CC CT H0 g (Ge03.step w x) Q
/-- answers': the list that is handed in, the list that is due -/
def spAnswers (K : PySem.W.Frag) : Sp := fun vs H Q _ => ∃ (a : Addr) (ns : List Int), vs = [.ref a] ∧ SqL K H a (vI ns) ∧ PyGe03.answers_asked ns = true ∧ ∀ (H' : Hp) (p : Addr), H' p = some (.lst (vI (PyGe03.answers ns))) → Q (.ref p) H'
theorem vI_app (a b : List Int) : vI (a ++ b) = vI a ++ vI b := List.map_append
theorem vI_len (l : List Int) : (vI l).length = l.length := List.length_map _
theorem vI_at {l : List Int} {i : Nat} {z : Int} (h : l[i]? = some z) : (vI l)[i]? = some (V.int z) := by
  unfold vI
  rw [List.getElem?_map, h]
  rfl
section
variable {P : Program} {w : World} {K : PySem.W.Frag} {mg : Str → Option Value} {base : Heap} {CG CC CT : Addr}
theorem scAn : FnScope ["calls", "game", "told", "start", "end", "answer"] ["calls"] (defScope sAnswers) := ⟨rfl, rfl, rfl, by decide +kernel, rfl, by decide +kernel, by decide +kernel⟩
theorem ok_answers {f fI fA aW : Addr} {fd fdI fdA : FuncData} (F : Fun K "answers" "answers" sAnswers f fd) (T : Txt K mg CG CC CT) (M : Mk K CG fI) (GI : FnOk P w K mg base CX0 4 fI fdI ["self"] (spGInit CG CC CT)) (bI : Binds K fdI ["self"] [])
    (GA : FnOk P w K mg base CX0 6 fA fdA ["game", "call"] (spAnswer CG CC CT)) (bA : Binds K fdA ["game", "call"] []) (mgA : mg "answer_call" = some (.ref fA)) (kpA : PySem.W.keepIn K (.ref fA) = true) (mgW : mg "WIDTHS" = some (.ref aW)) (hW : ∀ H, SqT K H aW (vN wide)) :
    FnOk P w K mg base CX0 7 f fd ["calls"] (spAnswers K) := by
  refine F.ok scAn (fun vs H Q E h => ?_) (fun cdv A outer s H vs Q E hr h => ?_)
  · obtain ⟨a, ns, rfl, _⟩ := h
    rfl
  · obtain ⟨a, ns, rfl, hS, ask, k⟩ := h
    obtain ⟨cs0, hcs0, hask, eA, lenA⟩ := asked_all ask
    have hr5 : Room 5 _ := hr.mono (by decide)
    refine ⟨_, pss_cons (ps_set (i := 1) scAn.nd rfl (Or.inl rfl) (pe_make0 M GI hr5 rfl T.mgG bI .nil pass0)) (pss_cons (ps_set (i := 2) scAn.nd rfl (Or.inl rfl) (pe_lst pa_nil)) (pss_cons (ps_set (i := 3) scAn.nd rfl (Or.inl rfl) pe_int)
      (pss_cons (ps_while PassesOwn.never (pt_cmpR op_lt (pv 3) (pe_callB call_len_seq (by rfl) T.len PySem.boot_len (pa_cons (pv 0) pa_nil)) (nomark _))
        (pss_cons (ps_set (i := 4) scAn.nd rfl (Or.inl rfl) (pe_op op_add (pv 3) (pe_ix ix_tup (pe_glob (v := .ref aW) rfl mgW rfl) (pe_ix ix_list (pv 0) (pv 3) (fun _ _ => rfl)) (fun _ _ => rfl))))
        (pss_cons (ps_set (i := 5) scAn.nd rfl (Or.inl rfl) (pe_call GA hr rfl mgA kpA bA .nil pass0 (pa_cons (pv 1) (pa_cons (pe_slice sl_list (pv 0) (po_some (pv 3)) (po_some (pv 4))) pa_nil))))
        (pss_cons (ps_expr (pe_bm PySem.F.plainAttrs_list PySem.F.slot_list_append PySem.F.type_list_append mt_append (pv 2) (pa_cons (pe_callB call_len_seq (by rfl) T.len PySem.boot_len (pa_cons (pv 5) pa_nil)) pa_nil)))
        (pss_cons (ps_expr (pe_bm PySem.F.plainAttrs_list PySem.F.slot_list_extend PySem.F.type_list_extend mt_extend (pv 2) (pa_cons (pv 5) pa_nil)))
        (pss_one (ps_set (i := 3) scAn.nd rfl (Or.inl rfl) (pv 4))))))))
      (pss_one (ps_ret (pv 2)))))), ?_⟩
    intro g dx ng nd ne
    refine ⟨H, g, dx, rfl, ?_, ng, upd_same, fun H1 R1 => ⟨rfl, ?_⟩⟩
    · intro b o e
      rw [upd_ne (ne_of_none e ng), upd_ne (ne_of_none e nd)]
      exact e
    refine ⟨Nat.zero_le _, fun p hp => ?_⟩
    have p0 : H p = none := R1.same.free hp
    refine ⟨fun m σ H' => ∃ (i : Nat) (v4 v5 : Option V) (w1 : GWorld) (Hf : Hp) (acc : List Int) (f : Nat) (cs : List (List (List Int))), m = ns.length - i ∧ i ≤ ns.length ∧ σ = [some (.ref a), some (.ref g), some (.ref p), some (.int (i : Int)), v4, v5] ∧
        Ok w1 ∧ PyFlat.calls PyGe03.shape f (ns.drop i) = some cs ∧ (∀ c ∈ cs, Ge03Neutral.asked1 (c.headD []) = true) ∧ acc ++ goes w1 cs = PyGe03.answers ns ∧ Same H Hf ∧ Hf p = some (.lst (vI acc)) ∧ GameAt CG CC CT Hf H' g w1,
      ⟨_, 0, none, none, Ge03.init, upd H p (.lst []), [], _, cs0, rfl, Nat.zero_le _, rfl, init_ok, hcs0, hask, eA.symm, same_new p0, upd_same, R1.put (.inr hp)⟩, ?_⟩
    rintro m σ H' ⟨i, v4, v5, w1, Hf, acc, f, cs, rfl, hil, rfl, ok1, hcs, hask1, eacc, sf, hpf, R2⟩
    have hS2 : SqL K H' a (vI ns) := (sf.trans R2.same).seq hS
    have eln : ((vI ns).length : Int) = ((ns.length : Nat) : Int) := by rw [vI_len]
    refine ⟨_, rfl, _, rfl, a, _, rfl, .inl hS2, _, _, rfl, rfl, _, rfl, ?_⟩
    have la : acc.length ≤ 10000000 := by
      rw [← eacc, List.length_append] at lenA
      omega
    by_cases c1 : i < ns.length
    case neg =>
      refine if_false_of (decide_eq_false (by rw [eln]; omega)) ?_
      have ed : ns.drop i = [] := List.drop_eq_nil_of_le (by omega)
      rw [ed] at hcs
      have ecs := parse_nil hcs
      subst ecs
      rw [goes_nil, List.append_nil] at eacc
      refine ⟨_, rfl, k H' p ?_⟩
      rw [← eacc]
      exact R2.same _ _ hpf
    refine if_true_of (decide_eq_true (by rw [eln]; omega)) ⟨_, fun σ' H' h => h, ?_⟩
    -- the call that stands here
    obtain ⟨z, r, ezr⟩ : ∃ z r, ns.drop i = z :: r := ⟨_, _, List.drop_eq_getElem_cons c1⟩
    rw [ezr] at hcs
    obtain ⟨f', n, cs', hn, rfl, hcs'⟩ := parse_cons hcs
    have h1 := hask1 _ List.mem_cons_self
    obtain ⟨x, ex, estep⟩ := asked_call h1
    change z :: r.take n = enc x at ex
    have elen : (enc x).length = n + 1 := by rw [← ex, List.length_cons, List.length_take]; omega
    have ez : ns[i]? = some z := by
      have : (ns.drop i)[0]? = some z := by rw [ezr]; rfl
      rw [List.getElem?_drop, Nat.add_zero] at this
      exact this
    have ezp : z = ((place x : Nat) : Int) := by
      have := enc_head x
      rw [← ex] at this
      exact Option.some.inj this
    have hr_len : r.length + 1 = ns.length - i := by
      have := congrArg List.length ezr
      rw [List.length_drop, List.length_cons] at this
      omega
    refine ⟨_, rfl, _, rfl, _, rfl, a, _, (i : Int), _, rfl, rfl, hS2, atI_nat (vI_at ez), aW, _, ((place x : Nat) : Int), _, rfl, (by rw [ezp]), hW _, atI_nat (getElem?_vN (wide_enc x)), _, _, rfl, rfl, ?_⟩
    have ee : (i : Int) + ((enc x).length : Int) = ((i + (n + 1) : Nat) : Int) := by rw [elen]; omega
    dsimp only
    rw [ee]
    refine ⟨_, rfl, _, rfl, _, rfl, (i : Int), rfl, _, rfl, ((i + (n + 1) : Nat) : Int), rfl, a, _, rfl, hS2, fun c hc => ?_⟩
    have ecut : cutV (vI ns) (some (i : Int)) (some ((i + (n + 1) : Nat) : Int)) = vI (enc x) := by
      unfold cutV
      rw [HT.sIx_nat, HT.sIx_nat, vI_len, Nat.min_eq_left hil, Nat.min_eq_left (by omega)]
      have e1 : i + (n + 1) - i = n + 1 := by omega
      rw [e1]
      unfold vI
      rw [← List.map_drop, ezr, ← List.map_take, ← ex]
      rfl
    rw [ecut]
    have R3 := R2.put (p := c) (o := .lst (vI (enc x))) (.inr hc)
    have c0 : Hf c = none := R2.same.free hc
    refine ⟨_, g, c, w1, x, rfl, upd_same, R3, ok1, fun H4f H4 q s4 q0 hq R4 => ?_⟩
    have npc : p ≠ c := fun z => by rw [z, c0] at hpf; cases hpf
    have hp4 : H4f p = some (.lst (vI acc)) := s4 _ _ ((upd_ne npc).trans hpf)
    have sf4 : Same H H4f := (sf.trans (same_new c0)).trans s4
    have npq : p ≠ q := fun z => by rw [← z, upd_ne npc, hpf] at q0; cases q0
    rw [goes_cons w1 (z :: r.take n) cs' estep] at eacc
    have lb : acc.length + ((Ge03.step w1 x).2.length + 1) ≤ 10000000 := by
      rw [← eacc, List.length_append, List.length_append, List.length_cons] at lenA
      omega
    refine ⟨_, rfl, .inl ⟨rfl, _, SqL.of (R4.same _ _ hp4)⟩, _, rfl, q, _, rfl, .inl (SqL.of (R4.same _ _ hq)), p, _, _, rfl, rfl, R4.same _ _ hp4, smallM (by rw [vI_len]; omega), ?_⟩
    refine ⟨_, rfl, .inl ⟨rfl, _, SqL.of upd_same⟩, _, rfl, p, q, _, _, rfl, rfl, upd_same, (upd_ne npq.symm).trans (R4.same _ _ hq), Nat.le_of_lt (smallM (by rw [List.length_append, vI_len, vI_len, List.length_singleton]; omega)), ?_⟩
    refine ⟨_, rfl, ?_⟩
    rw [upd_upd]
    refine ⟨ns.length - (i + (n + 1)), by omega, i + (n + 1), _, _, (Ge03.step w1 x).1, _, acc ++ (((Ge03.step w1 x).2.length : Nat) : Int) :: (Ge03.step w1 x).2, f', cs', rfl, by omega, rfl, step_ok ok1 x, ?_, fun c hc => hask1 c (List.mem_cons_of_mem _ hc), ?_, same_stored sf4 p0, ?_, R4.put (.inl ⟨_, hp4⟩)⟩
    · rw [← hcs']
      congr 1
      have : ns.drop (i + (n + 1)) = (ns.drop i).drop (n + 1) := by rw [List.drop_drop]
      rw [this, ezr]
      rfl
    · rw [← eacc, List.append_assoc]
    · rw [upd_same, vI_len]
      have : vI (acc ++ (((Ge03.step w1 x).2.length : Nat) : Int) :: (Ge03.step w1 x).2) = (vI acc ++ [V.int (((Ge03.step w1 x).2.length : Nat) : Int)]) ++ vI (Ge03.step w1 x).2 := by
        rw [vI_app, List.append_assoc]
        rfl
      rw [this]
end
end Tk

namespace Tk
open PySem PySem.Spec PyProof.Rows L2
/-! ### one call, by its number -/
theorem neI {i j : Int} (h : i ≠ j) : decide (V.int i = V.int j) = false := decide_eq_false fun z => h (by injection z)
theorem eqI {i j : Int} (h : i = j) : decide (V.int i = V.int j) = true := decide_eq_true (by rw [h])
section
variable {P : Program} {w : World} {K : PySem.W.Frag} {mg : Str → Option Value} {base : Heap} {CG CC CT : Addr}
theorem scAk : FnScope ["game", "call", "number"] ["game", "call"] (defScope sAnswerCall) := ⟨rfl, rfl, rfl, by decide +kernel, rfl, by decide +kernel, by decide +kernel⟩
theorem ok_answer {f f0 f1 f2 f3 f4 f5 f6 f7 f8 f9 : Addr} {fd fd0 fd1 fd2 fd3 fd4 fd5 fd6 fd7 fd8 fd9 : FuncData} (F : Fun K "answer_call" "answer_call" sAnswerCall f fd) (T : Txt K mg CG CC CT)
    (G0 : FnOk P w K mg base CX0 4 f0 fd0 ["game", "step", "most"] (spCall2 CG CC CT .begins)) (b0 : Binds K fd0 ["game", "step", "most"] []) (m0 : mg "begin" = some (.ref f0)) (k0 : PySem.W.keepIn K (.ref f0) = true)
    (G1 : FnOk P w K mg base CX0 4 f1 fd1 ["game", "parts"] (spCall1 CG CC CT .frame)) (b1 : Binds K fd1 ["game", "parts"] []) (m1 : mg "pass_frame" = some (.ref f1)) (k1 : PySem.W.keepIn K (.ref f1) = true)
    (G2 : FnOk P w K mg base CX0 3 f2 fd2 ["game", "on", "speed"] (spCall2 CG CC CT .clock)) (b2 : Binds K fd2 ["game", "on", "speed"] []) (m2 : mg "add_clock" = some (.ref f2)) (k2 : PySem.W.keepIn K (.ref f2) = true)
    (G3 : FnOk P w K mg base CX0 2 f3 fd3 ["game", "number", "speed"] (spCall2 CG CC CT .speed)) (b3 : Binds K fd3 ["game", "number", "speed"] []) (m3 : mg "change_speed" = some (.ref f3)) (k3 : PySem.W.keepIn K (.ref f3) = true)
    (G4 : FnOk P w K mg base CX0 3 f4 fd4 ["game", "on", "behind", "again"] (spCall3 CG CC CT .timer)) (b4 : Binds K fd4 ["game", "on", "behind", "again"] []) (m4 : mg "add_timer" = some (.ref f4)) (k4 : PySem.W.keepIn K (.ref f4) = true)
    (G5 : FnOk P w K mg base CX0 2 f5 fd5 ["game", "number"] (spCall1 CG CC CT .halt_)) (b5 : Binds K fd5 ["game", "number"] []) (m5 : mg "stop_timer" = some (.ref f5)) (k5 : PySem.W.keepIn K (.ref f5) = true)
    (G6 : FnOk P w K mg base CX0 2 f6 fd6 ["game", "number"] (spCall1 CG CC CT .left)) (b6 : Binds K fd6 ["game", "number"] []) (m6 : mg "tell_left" = some (.ref f6)) (k6 : PySem.W.keepIn K (.ref f6) = true)
    (G7 : FnOk P w K mg base CX0 2 f7 fd7 ["game", "number"] (spCall1 CG CC CT .now)) (b7 : Binds K fd7 ["game", "number"] []) (m7 : mg "tell_now" = some (.ref f7)) (k7 : PySem.W.keepIn K (.ref f7) = true)
    (G8 : FnOk P w K mg base CX0 5 f8 fd8 ["game"] (spCall0 CG CC CT .next)) (b8 : Binds K fd8 ["game"] []) (m8 : mg "tell_next" = some (.ref f8)) (k8 : PySem.W.keepIn K (.ref f8) = true)
    (G9 : FnOk P w K mg base CX0 1 f9 fd9 ["game"] (spCall0 CG CC CT .shows)) (b9 : Binds K fd9 ["game"] []) (m9 : mg "show" = some (.ref f9)) (k9 : PySem.W.keepIn K (.ref f9) = true) :
    FnOk P w K mg base CX0 6 f fd ["game", "call"] (spAnswer CG CC CT) := by
  refine F.ok scAk (fun vs H Q E h => ?_) (fun cdv A outer s H vs Q E hr h => ?_)
  · obtain ⟨H0, g, a, w, x, rfl, _⟩ := h
    rfl
  · obtain ⟨H0, g, a, w, x, rfl, ha0, R, ok, k⟩ := h
    have r4 : Room 4 _ := hr.mono (by decide)
    have r3 : Room 3 _ := hr.mono (by decide)
    have r2 : Room 2 _ := hr.mono (by decide)
    have r1 : Room 1 _ := hr.mono (by decide)
    refine ⟨_, pss_cons (ps_set (i := 2) scAk.nd rfl (Or.inl rfl) (pe_ix ix_list (pv 1) pe_int (fun _ _ => rfl)))
      (pss_cons (ps_if (pt_cmpR op_eq (pv 2) (pgi T.k0) (nomark _)) (pss_one (ps_ret (pe_call G0 r4 rfl m0 k0 b0 .nil pass0 (pa_cons (pv 0) (pa_cons (pe_ix ix_list (pv 1) pe_int (fun _ _ => rfl)) (pa_cons (pe_ix ix_list (pv 1) pe_int (fun _ _ => rfl)) pa_nil)))))) pss_nil)
      (pss_cons (ps_if (pt_cmpR op_eq (pv 2) (pgi T.k1) (nomark _)) (pss_one (ps_ret (pe_call G1 r4 rfl m1 k1 b1 .nil pass0 (pa_cons (pv 0) (pa_cons (pe_ix ix_list (pv 1) pe_int (fun _ _ => rfl)) pa_nil))))) pss_nil)
      (pss_cons (ps_if (pt_cmpR op_eq (pv 2) (pgi T.k2) (nomark _)) (pss_one (ps_ret (pe_call G2 r3 rfl m2 k2 b2 .nil pass0 (pa_cons (pv 0) (pa_cons (pe_ix ix_list (pv 1) pe_int (fun _ _ => rfl)) (pa_cons (pe_ix ix_list (pv 1) pe_int (fun _ _ => rfl)) pa_nil)))))) pss_nil)
      (pss_cons (ps_if (pt_cmpR op_eq (pv 2) (pgi T.k3) (nomark _)) (pss_one (ps_ret (pe_call G3 r2 rfl m3 k3 b3 .nil pass0 (pa_cons (pv 0) (pa_cons (pe_ix ix_list (pv 1) pe_int (fun _ _ => rfl)) (pa_cons (pe_ix ix_list (pv 1) pe_int (fun _ _ => rfl)) pa_nil)))))) pss_nil)
      (pss_cons (ps_if (pt_cmpR op_eq (pv 2) (pgi T.k4) (nomark _)) (pss_one (ps_ret (pe_call G4 r3 rfl m4 k4 b4 .nil pass0 (pa_cons (pv 0) (pa_cons (pe_ix ix_list (pv 1) pe_int (fun _ _ => rfl)) (pa_cons (pe_ix ix_list (pv 1) pe_int (fun _ _ => rfl)) (pa_cons (pe_ix ix_list (pv 1) pe_int (fun _ _ => rfl)) pa_nil))))))) pss_nil)
      (pss_cons (ps_if (pt_cmpR op_eq (pv 2) (pgi T.k5) (nomark _)) (pss_one (ps_ret (pe_call G5 r2 rfl m5 k5 b5 .nil pass0 (pa_cons (pv 0) (pa_cons (pe_ix ix_list (pv 1) pe_int (fun _ _ => rfl)) pa_nil))))) pss_nil)
      (pss_cons (ps_if (pt_cmpR op_eq (pv 2) (pgi T.k6) (nomark _)) (pss_one (ps_ret (pe_call G6 r2 rfl m6 k6 b6 .nil pass0 (pa_cons (pv 0) (pa_cons (pe_ix ix_list (pv 1) pe_int (fun _ _ => rfl)) pa_nil))))) pss_nil)
      (pss_cons (ps_if (pt_cmpR op_eq (pv 2) (pgi T.k7) (nomark _)) (pss_one (ps_ret (pe_call G7 r2 rfl m7 k7 b7 .nil pass0 (pa_cons (pv 0) (pa_cons (pe_ix ix_list (pv 1) pe_int (fun _ _ => rfl)) pa_nil))))) pss_nil)
      (pss_cons (ps_if (pt_cmpR op_eq (pv 2) (pgi T.k8) (nomark _)) (pss_one (ps_ret (pe_call G8 hr rfl m8 k8 b8 .nil pass0 (pa_cons (pv 0) pa_nil)))) pss_nil)
      (pss_one (ps_ret (pe_call G9 r1 rfl m9 k9 b9 .nil pass0 (pa_cons (pv 0) pa_nil))))))))))))), ?_⟩
    have ha := R.same _ _ ha0
    cases x with
    | begins s m =>
      refine ⟨_, rfl, a, _, _, _, rfl, rfl, SqL.of ha, rfl, ?_⟩
      refine ⟨_, rfl, rfl, _, rfl, if_true_of (eqI rfl) ?_⟩
      exact ⟨_, rfl, _, rfl, a, _, _, _, rfl, rfl, SqL.of ha, rfl, _, rfl, a, _, _, _, rfl, rfl, SqL.of ha, rfl, H0, g, w, s, m, rfl, R, ok, k⟩
    | frame d =>
      refine ⟨_, rfl, a, _, _, _, rfl, rfl, SqL.of ha, rfl, ?_⟩
      refine ⟨_, rfl, rfl, _, rfl, if_false_of (neI (by decide)) ?_⟩
      refine ⟨_, rfl, rfl, _, rfl, if_true_of (eqI rfl) ?_⟩
      exact ⟨_, rfl, _, rfl, a, _, _, _, rfl, rfl, SqL.of ha, rfl, H0, g, w, d, rfl, R, ok, k⟩
    | clock o s =>
      refine ⟨_, rfl, a, _, _, _, rfl, rfl, SqL.of ha, rfl, ?_⟩
      refine ⟨_, rfl, rfl, _, rfl, if_false_of (neI (by decide)) ?_⟩
      refine ⟨_, rfl, rfl, _, rfl, if_false_of (neI (by decide)) ?_⟩
      refine ⟨_, rfl, rfl, _, rfl, if_true_of (eqI rfl) ?_⟩
      exact ⟨_, rfl, _, rfl, a, _, _, _, rfl, rfl, SqL.of ha, rfl, _, rfl, a, _, _, _, rfl, rfl, SqL.of ha, rfl, H0, g, w, o, s, rfl, R, ok, k⟩
    | speed c s =>
      refine ⟨_, rfl, a, _, _, _, rfl, rfl, SqL.of ha, rfl, ?_⟩
      refine ⟨_, rfl, rfl, _, rfl, if_false_of (neI (by decide)) ?_⟩
      refine ⟨_, rfl, rfl, _, rfl, if_false_of (neI (by decide)) ?_⟩
      refine ⟨_, rfl, rfl, _, rfl, if_false_of (neI (by decide)) ?_⟩
      refine ⟨_, rfl, rfl, _, rfl, if_true_of (eqI rfl) ?_⟩
      exact ⟨_, rfl, _, rfl, a, _, _, _, rfl, rfl, SqL.of ha, rfl, _, rfl, a, _, _, _, rfl, rfl, SqL.of ha, rfl, H0, g, w, c, s, rfl, R, ok, k⟩
    | timer c n z =>
      refine ⟨_, rfl, a, _, _, _, rfl, rfl, SqL.of ha, rfl, ?_⟩
      refine ⟨_, rfl, rfl, _, rfl, if_false_of (neI (by decide)) ?_⟩
      refine ⟨_, rfl, rfl, _, rfl, if_false_of (neI (by decide)) ?_⟩
      refine ⟨_, rfl, rfl, _, rfl, if_false_of (neI (by decide)) ?_⟩
      refine ⟨_, rfl, rfl, _, rfl, if_false_of (neI (by decide)) ?_⟩
      refine ⟨_, rfl, rfl, _, rfl, if_true_of (eqI rfl) ?_⟩
      exact ⟨_, rfl, _, rfl, a, _, _, _, rfl, rfl, SqL.of ha, rfl, _, rfl, a, _, _, _, rfl, rfl, SqL.of ha, rfl, _, rfl, a, _, _, _, rfl, rfl, SqL.of ha, rfl, H0, g, w, c, n, z, rfl, R, ok, k⟩
    | halt_ t =>
      refine ⟨_, rfl, a, _, _, _, rfl, rfl, SqL.of ha, rfl, ?_⟩
      refine ⟨_, rfl, rfl, _, rfl, if_false_of (neI (by decide)) ?_⟩
      refine ⟨_, rfl, rfl, _, rfl, if_false_of (neI (by decide)) ?_⟩
      refine ⟨_, rfl, rfl, _, rfl, if_false_of (neI (by decide)) ?_⟩
      refine ⟨_, rfl, rfl, _, rfl, if_false_of (neI (by decide)) ?_⟩
      refine ⟨_, rfl, rfl, _, rfl, if_false_of (neI (by decide)) ?_⟩
      refine ⟨_, rfl, rfl, _, rfl, if_true_of (eqI rfl) ?_⟩
      exact ⟨_, rfl, _, rfl, a, _, _, _, rfl, rfl, SqL.of ha, rfl, H0, g, w, t, rfl, R, ok, k⟩
    | left t =>
      refine ⟨_, rfl, a, _, _, _, rfl, rfl, SqL.of ha, rfl, ?_⟩
      refine ⟨_, rfl, rfl, _, rfl, if_false_of (neI (by decide)) ?_⟩
      refine ⟨_, rfl, rfl, _, rfl, if_false_of (neI (by decide)) ?_⟩
      refine ⟨_, rfl, rfl, _, rfl, if_false_of (neI (by decide)) ?_⟩
      refine ⟨_, rfl, rfl, _, rfl, if_false_of (neI (by decide)) ?_⟩
      refine ⟨_, rfl, rfl, _, rfl, if_false_of (neI (by decide)) ?_⟩
      refine ⟨_, rfl, rfl, _, rfl, if_false_of (neI (by decide)) ?_⟩
      refine ⟨_, rfl, rfl, _, rfl, if_true_of (eqI rfl) ?_⟩
      exact ⟨_, rfl, _, rfl, a, _, _, _, rfl, rfl, SqL.of ha, rfl, H0, g, w, t, rfl, R, ok, k⟩
    | now c =>
      refine ⟨_, rfl, a, _, _, _, rfl, rfl, SqL.of ha, rfl, ?_⟩
      refine ⟨_, rfl, rfl, _, rfl, if_false_of (neI (by decide)) ?_⟩
      refine ⟨_, rfl, rfl, _, rfl, if_false_of (neI (by decide)) ?_⟩
      refine ⟨_, rfl, rfl, _, rfl, if_false_of (neI (by decide)) ?_⟩
      refine ⟨_, rfl, rfl, _, rfl, if_false_of (neI (by decide)) ?_⟩
      refine ⟨_, rfl, rfl, _, rfl, if_false_of (neI (by decide)) ?_⟩
      refine ⟨_, rfl, rfl, _, rfl, if_false_of (neI (by decide)) ?_⟩
      refine ⟨_, rfl, rfl, _, rfl, if_false_of (neI (by decide)) ?_⟩
      refine ⟨_, rfl, rfl, _, rfl, if_true_of (eqI rfl) ?_⟩
      exact ⟨_, rfl, _, rfl, a, _, _, _, rfl, rfl, SqL.of ha, rfl, H0, g, w, c, rfl, R, ok, k⟩
    | next =>
      refine ⟨_, rfl, a, _, _, _, rfl, rfl, SqL.of ha, rfl, ?_⟩
      refine ⟨_, rfl, rfl, _, rfl, if_false_of (neI (by decide)) ?_⟩
      refine ⟨_, rfl, rfl, _, rfl, if_false_of (neI (by decide)) ?_⟩
      refine ⟨_, rfl, rfl, _, rfl, if_false_of (neI (by decide)) ?_⟩
      refine ⟨_, rfl, rfl, _, rfl, if_false_of (neI (by decide)) ?_⟩
      refine ⟨_, rfl, rfl, _, rfl, if_false_of (neI (by decide)) ?_⟩
      refine ⟨_, rfl, rfl, _, rfl, if_false_of (neI (by decide)) ?_⟩
      refine ⟨_, rfl, rfl, _, rfl, if_false_of (neI (by decide)) ?_⟩
      refine ⟨_, rfl, rfl, _, rfl, if_false_of (neI (by decide)) ?_⟩
      refine ⟨_, rfl, rfl, _, rfl, if_true_of (eqI rfl) ?_⟩
      exact ⟨_, rfl, H0, g, w, rfl, R, ok, k⟩
    | shows =>
      refine ⟨_, rfl, a, _, _, _, rfl, rfl, SqL.of ha, rfl, ?_⟩
      refine ⟨_, rfl, rfl, _, rfl, if_false_of (neI (by decide)) ?_⟩
      refine ⟨_, rfl, rfl, _, rfl, if_false_of (neI (by decide)) ?_⟩
      refine ⟨_, rfl, rfl, _, rfl, if_false_of (neI (by decide)) ?_⟩
      refine ⟨_, rfl, rfl, _, rfl, if_false_of (neI (by decide)) ?_⟩
      refine ⟨_, rfl, rfl, _, rfl, if_false_of (neI (by decide)) ?_⟩
      refine ⟨_, rfl, rfl, _, rfl, if_false_of (neI (by decide)) ?_⟩
      refine ⟨_, rfl, rfl, _, rfl, if_false_of (neI (by decide)) ?_⟩
      refine ⟨_, rfl, rfl, _, rfl, if_false_of (neI (by decide)) ?_⟩
      refine ⟨_, rfl, rfl, _, rfl, if_false_of (neI (by decide)) ?_⟩
      exact ⟨_, rfl, H0, g, w, rfl, R, ok, k⟩
end
end Tk

namespace Tk
open PySem PySem.Spec PyProof.Rows L2
open PySem.W (Codec)
theorem all_mk {P : Program} {w : World} {K : PySem.W.Frag} {h : Heap} {mg : Str → Option Value} {fa CC CT CG aW f_ci f_go f_tw f_mo f_ti f_du f_fs f_gi f_re f_ha f_fi f_pa f_ah f_ri f_tk f_be f_fr f_ac f_sp f_at f_st f_le f_no f_nx f_sh f_an f_as : Addr} (X : K.In h) (G : h.Ns mainGlobals mg) (hfa : mg "answers" = some (.ref fa))
    {od_ci an_ci od_go an_go od_tw an_tw od_mo an_mo od_ti an_ti od_du an_du od_fs an_fs od_gi an_gi od_re an_re od_ha an_ha od_fi an_fi od_pa an_pa od_ah an_ah od_ri an_ri od_tk an_tk od_be an_be od_fr an_fr od_ac an_ac od_sp an_sp od_at an_at od_st an_st od_le an_le od_no an_no od_nx an_nx od_sh an_sh od_an an_an od_as an_as odW : Option Addr} {sl_ci sl_go sl_tw sl_mo sl_ti sl_du sl_fs sl_gi sl_re sl_ha sl_fi sl_pa sl_ah sl_ri sl_tk sl_be sl_fr sl_ac sl_sp sl_at sl_st sl_le sl_no sl_nx sl_sh sl_an sl_as slW : Array (Option Value)} {oc_ci kV_ci dc_ci pm_ci cd_ci ct_ci oc_go kV_go dc_go pm_go cd_go ct_go oc_tw kV_tw dc_tw pm_tw cd_tw ct_tw oc_mo kV_mo dc_mo pm_mo cd_mo ct_mo oc_ti kV_ti dc_ti pm_ti cd_ti ct_ti oc_du kV_du dc_du pm_du cd_du ct_du oc_fs kV_fs dc_fs pm_fs cd_fs ct_fs oc_gi kV_gi dc_gi pm_gi cd_gi ct_gi oc_re kV_re dc_re pm_re cd_re ct_re oc_ha kV_ha dc_ha pm_ha cd_ha ct_ha oc_fi kV_fi dc_fi pm_fi cd_fi ct_fi oc_pa kV_pa dc_pa pm_pa cd_pa ct_pa oc_ah kV_ah dc_ah pm_ah cd_ah ct_ah oc_ri kV_ri dc_ri pm_ri cd_ri ct_ri oc_tk kV_tk dc_tk pm_tk cd_tk ct_tk oc_be kV_be dc_be pm_be cd_be ct_be oc_fr kV_fr dc_fr pm_fr cd_fr ct_fr oc_ac kV_ac dc_ac pm_ac cd_ac ct_ac oc_sp kV_sp dc_sp pm_sp cd_sp ct_sp oc_at kV_at dc_at pm_at cd_at ct_at oc_st kV_st dc_st pm_st cd_st ct_st oc_le kV_le dc_le pm_le cd_le ct_le oc_no kV_no dc_no pm_no cd_no ct_no oc_nx kV_nx dc_nx pm_nx cd_nx ct_nx oc_sh kV_sh dc_sh pm_sh cd_sh ct_sh oc_an kV_an dc_an pm_an cd_an ct_an oc_as kV_as dc_as pm_as cd_as ct_as : Value}
    {t_OUT_OF_BOUNDS t_NO_SUCH_CLOCK t_NO_SUCH_TIMER t_TOO_MANY t_FIRST_STEP t_FIRST_MOST t_FULL_SPEED t_HIGHEST_STEP t_HIGHEST_MOST t_HIGHEST_PARTS t_HIGHEST_SPEED t_HIGHEST_BEHIND t_HIGHEST_AGAIN t_CLOCKS_AT_MOST t_TIMERS_AT_MOST t_TICKS_AHEAD t_BEGINS t_FRAME t_CLOCK t_SPEED t_TIMER t_STOP t_LEFT t_NOW t_NEXT : Tok} {itsW : Array Value} {nW : Nat}
    (aCC : PySem.W.nsIn K mainGlobals "Clock" = some (some (.ref CC)))
    (aCT : PySem.W.nsIn K mainGlobals "Timer" = some (some (.ref CT)))
    (aCG : PySem.W.nsIn K mainGlobals "Game" = some (some (.ref CG)))
    (a_ci : PySem.W.findIn K (.ref CC) "__init__" = some (some (.ref f_ci)))
    (i_ci : PySem.W.isFn K (.ref f_ci) = true)
    (l_ci : K.lookup f_ci = some ⟨oc_ci, od_ci, .func (PySem.W.fnOf "__init__" "Clock.__init__" (defArgs sCInit) (defBody sCInit) (defScope sCInit) .none kV_ci dc_ci pm_ci an_ci cd_ci ct_ci), sl_ci⟩)
    (c_ci : PySem.W.codeIn K cd_ci "Clock.__init__" = true)
    (k_ci : PySem.W.keepIn K (.ref f_ci) = true)
    (a_go : PySem.W.findIn K (.ref CC) "go_on" = some (some (.ref f_go)))
    (i_go : PySem.W.isFn K (.ref f_go) = true)
    (l_go : K.lookup f_go = some ⟨oc_go, od_go, .func (PySem.W.fnOf "go_on" "Clock.go_on" (defArgs sGoOn) (defBody sGoOn) (defScope sGoOn) .none kV_go dc_go pm_go an_go cd_go ct_go), sl_go⟩)
    (c_go : PySem.W.codeIn K cd_go "Clock.go_on" = true)
    (k_go : PySem.W.keepIn K (.ref f_go) = true)
    (a_tw : PySem.W.findIn K (.ref CC) "twin" = some (some (.ref f_tw)))
    (i_tw : PySem.W.isFn K (.ref f_tw) = true)
    (l_tw : K.lookup f_tw = some ⟨oc_tw, od_tw, .func (PySem.W.fnOf "twin" "Clock.twin" (defArgs sTwin) (defBody sTwin) (defScope sTwin) .none kV_tw dc_tw pm_tw an_tw cd_tw ct_tw), sl_tw⟩)
    (c_tw : PySem.W.codeIn K cd_tw "Clock.twin" = true)
    (k_tw : PySem.W.keepIn K (.ref f_tw) = true)
    (a_mo : PySem.W.nsIn K mainGlobals "move_clocks" = some (some (.ref f_mo)))
    (l_mo : K.lookup f_mo = some ⟨oc_mo, od_mo, .func (PySem.W.fnOf "move_clocks" "move_clocks" (defArgs sMove) (defBody sMove) (defScope sMove) .none kV_mo dc_mo pm_mo an_mo cd_mo ct_mo), sl_mo⟩)
    (c_mo : PySem.W.codeIn K cd_mo "move_clocks" = true)
    (k_mo : PySem.W.keepIn K (.ref f_mo) = true)
    (a_ti : PySem.W.findIn K (.ref CT) "__init__" = some (some (.ref f_ti)))
    (i_ti : PySem.W.isFn K (.ref f_ti) = true)
    (l_ti : K.lookup f_ti = some ⟨oc_ti, od_ti, .func (PySem.W.fnOf "__init__" "Timer.__init__" (defArgs sTInit) (defBody sTInit) (defScope sTInit) .none kV_ti dc_ti pm_ti an_ti cd_ti ct_ti), sl_ti⟩)
    (c_ti : PySem.W.codeIn K cd_ti "Timer.__init__" = true)
    (k_ti : PySem.W.keepIn K (.ref f_ti) = true)
    (a_du : PySem.W.findIn K (.ref CT) "take_dues" = some (some (.ref f_du)))
    (i_du : PySem.W.isFn K (.ref f_du) = true)
    (l_du : K.lookup f_du = some ⟨oc_du, od_du, .func (PySem.W.fnOf "take_dues" "Timer.take_dues" (defArgs sDues) (defBody sDues) (defScope sDues) .none kV_du dc_du pm_du an_du cd_du ct_du), sl_du⟩)
    (c_du : PySem.W.codeIn K cd_du "Timer.take_dues" = true)
    (k_du : PySem.W.keepIn K (.ref f_du) = true)
    (a_fs : PySem.W.findIn K (.ref CT) "first_ring" = some (some (.ref f_fs)))
    (i_fs : PySem.W.isFn K (.ref f_fs) = true)
    (l_fs : K.lookup f_fs = some ⟨oc_fs, od_fs, .func (PySem.W.fnOf "first_ring" "Timer.first_ring" (defArgs sFirst) (defBody sFirst) (defScope sFirst) .none kV_fs dc_fs pm_fs an_fs cd_fs ct_fs), sl_fs⟩)
    (c_fs : PySem.W.codeIn K cd_fs "Timer.first_ring" = true)
    (k_fs : PySem.W.keepIn K (.ref f_fs) = true)
    (a_gi : PySem.W.findIn K (.ref CG) "__init__" = some (some (.ref f_gi)))
    (i_gi : PySem.W.isFn K (.ref f_gi) = true)
    (l_gi : K.lookup f_gi = some ⟨oc_gi, od_gi, .func (PySem.W.fnOf "__init__" "Game.__init__" (defArgs sGInit) (defBody sGInit) (defScope sGInit) .none kV_gi dc_gi pm_gi an_gi cd_gi ct_gi), sl_gi⟩)
    (c_gi : PySem.W.codeIn K cd_gi "Game.__init__" = true)
    (k_gi : PySem.W.keepIn K (.ref f_gi) = true)
    (a_re : PySem.W.findIn K (.ref CG) "restart" = some (some (.ref f_re)))
    (i_re : PySem.W.isFn K (.ref f_re) = true)
    (l_re : K.lookup f_re = some ⟨oc_re, od_re, .func (PySem.W.fnOf "restart" "Game.restart" (defArgs sRestart) (defBody sRestart) (defScope sRestart) .none kV_re dc_re pm_re an_re cd_re ct_re), sl_re⟩)
    (c_re : PySem.W.codeIn K cd_re "Game.restart" = true)
    (k_re : PySem.W.keepIn K (.ref f_re) = true)
    (a_ha : PySem.W.findIn K (.ref CG) "has_clock" = some (some (.ref f_ha)))
    (i_ha : PySem.W.isFn K (.ref f_ha) = true)
    (l_ha : K.lookup f_ha = some ⟨oc_ha, od_ha, .func (PySem.W.fnOf "has_clock" "Game.has_clock" (defArgs sHas) (defBody sHas) (defScope sHas) .none kV_ha dc_ha pm_ha an_ha cd_ha ct_ha), sl_ha⟩)
    (c_ha : PySem.W.codeIn K cd_ha "Game.has_clock" = true)
    (k_ha : PySem.W.keepIn K (.ref f_ha) = true)
    (a_fi : PySem.W.findIn K (.ref CG) "find_timer" = some (some (.ref f_fi)))
    (i_fi : PySem.W.isFn K (.ref f_fi) = true)
    (l_fi : K.lookup f_fi = some ⟨oc_fi, od_fi, .func (PySem.W.fnOf "find_timer" "Game.find_timer" (defArgs sFind) (defBody sFind) (defScope sFind) .none kV_fi dc_fi pm_fi an_fi cd_fi ct_fi), sl_fi⟩)
    (c_fi : PySem.W.codeIn K cd_fi "Game.find_timer" = true)
    (k_fi : PySem.W.keepIn K (.ref f_fi) = true)
    (a_pa : PySem.W.findIn K (.ref CG) "take_parts" = some (some (.ref f_pa)))
    (i_pa : PySem.W.isFn K (.ref f_pa) = true)
    (l_pa : K.lookup f_pa = some ⟨oc_pa, od_pa, .func (PySem.W.fnOf "take_parts" "Game.take_parts" (defArgs sParts) (defBody sParts) (defScope sParts) .none kV_pa dc_pa pm_pa an_pa cd_pa ct_pa), sl_pa⟩)
    (c_pa : PySem.W.codeIn K cd_pa "Game.take_parts" = true)
    (k_pa : PySem.W.keepIn K (.ref f_pa) = true)
    (a_ah : PySem.W.findIn K (.ref CG) "foresee_clocks" = some (some (.ref f_ah)))
    (i_ah : PySem.W.isFn K (.ref f_ah) = true)
    (l_ah : K.lookup f_ah = some ⟨oc_ah, od_ah, .func (PySem.W.fnOf "foresee_clocks" "Game.foresee_clocks" (defArgs sAhead) (defBody sAhead) (defScope sAhead) .none kV_ah dc_ah pm_ah an_ah cd_ah ct_ah), sl_ah⟩)
    (c_ah : PySem.W.codeIn K cd_ah "Game.foresee_clocks" = true)
    (k_ah : PySem.W.keepIn K (.ref f_ah) = true)
    (a_ri : PySem.W.findIn K (.ref CG) "take_rings" = some (some (.ref f_ri)))
    (i_ri : PySem.W.isFn K (.ref f_ri) = true)
    (l_ri : K.lookup f_ri = some ⟨oc_ri, od_ri, .func (PySem.W.fnOf "take_rings" "Game.take_rings" (defArgs sRings) (defBody sRings) (defScope sRings) .none kV_ri dc_ri pm_ri an_ri cd_ri ct_ri), sl_ri⟩)
    (c_ri : PySem.W.codeIn K cd_ri "Game.take_rings" = true)
    (k_ri : PySem.W.keepIn K (.ref f_ri) = true)
    (a_tk : PySem.W.findIn K (.ref CG) "tick" = some (some (.ref f_tk)))
    (i_tk : PySem.W.isFn K (.ref f_tk) = true)
    (l_tk : K.lookup f_tk = some ⟨oc_tk, od_tk, .func (PySem.W.fnOf "tick" "Game.tick" (defArgs sTick) (defBody sTick) (defScope sTick) .none kV_tk dc_tk pm_tk an_tk cd_tk ct_tk), sl_tk⟩)
    (c_tk : PySem.W.codeIn K cd_tk "Game.tick" = true)
    (k_tk : PySem.W.keepIn K (.ref f_tk) = true)
    (a_be : PySem.W.nsIn K mainGlobals "begin" = some (some (.ref f_be)))
    (l_be : K.lookup f_be = some ⟨oc_be, od_be, .func (PySem.W.fnOf "begin" "begin" (defArgs sBegin) (defBody sBegin) (defScope sBegin) .none kV_be dc_be pm_be an_be cd_be ct_be), sl_be⟩)
    (c_be : PySem.W.codeIn K cd_be "begin" = true)
    (k_be : PySem.W.keepIn K (.ref f_be) = true)
    (a_fr : PySem.W.nsIn K mainGlobals "pass_frame" = some (some (.ref f_fr)))
    (l_fr : K.lookup f_fr = some ⟨oc_fr, od_fr, .func (PySem.W.fnOf "pass_frame" "pass_frame" (defArgs sFrame) (defBody sFrame) (defScope sFrame) .none kV_fr dc_fr pm_fr an_fr cd_fr ct_fr), sl_fr⟩)
    (c_fr : PySem.W.codeIn K cd_fr "pass_frame" = true)
    (k_fr : PySem.W.keepIn K (.ref f_fr) = true)
    (a_ac : PySem.W.nsIn K mainGlobals "add_clock" = some (some (.ref f_ac)))
    (l_ac : K.lookup f_ac = some ⟨oc_ac, od_ac, .func (PySem.W.fnOf "add_clock" "add_clock" (defArgs sAddC) (defBody sAddC) (defScope sAddC) .none kV_ac dc_ac pm_ac an_ac cd_ac ct_ac), sl_ac⟩)
    (c_ac : PySem.W.codeIn K cd_ac "add_clock" = true)
    (k_ac : PySem.W.keepIn K (.ref f_ac) = true)
    (a_sp : PySem.W.nsIn K mainGlobals "change_speed" = some (some (.ref f_sp)))
    (l_sp : K.lookup f_sp = some ⟨oc_sp, od_sp, .func (PySem.W.fnOf "change_speed" "change_speed" (defArgs sSpeed) (defBody sSpeed) (defScope sSpeed) .none kV_sp dc_sp pm_sp an_sp cd_sp ct_sp), sl_sp⟩)
    (c_sp : PySem.W.codeIn K cd_sp "change_speed" = true)
    (k_sp : PySem.W.keepIn K (.ref f_sp) = true)
    (a_at : PySem.W.nsIn K mainGlobals "add_timer" = some (some (.ref f_at)))
    (l_at : K.lookup f_at = some ⟨oc_at, od_at, .func (PySem.W.fnOf "add_timer" "add_timer" (defArgs sAddT) (defBody sAddT) (defScope sAddT) .none kV_at dc_at pm_at an_at cd_at ct_at), sl_at⟩)
    (c_at : PySem.W.codeIn K cd_at "add_timer" = true)
    (k_at : PySem.W.keepIn K (.ref f_at) = true)
    (a_st : PySem.W.nsIn K mainGlobals "stop_timer" = some (some (.ref f_st)))
    (l_st : K.lookup f_st = some ⟨oc_st, od_st, .func (PySem.W.fnOf "stop_timer" "stop_timer" (defArgs sStop) (defBody sStop) (defScope sStop) .none kV_st dc_st pm_st an_st cd_st ct_st), sl_st⟩)
    (c_st : PySem.W.codeIn K cd_st "stop_timer" = true)
    (k_st : PySem.W.keepIn K (.ref f_st) = true)
    (a_le : PySem.W.nsIn K mainGlobals "tell_left" = some (some (.ref f_le)))
    (l_le : K.lookup f_le = some ⟨oc_le, od_le, .func (PySem.W.fnOf "tell_left" "tell_left" (defArgs sLeft) (defBody sLeft) (defScope sLeft) .none kV_le dc_le pm_le an_le cd_le ct_le), sl_le⟩)
    (c_le : PySem.W.codeIn K cd_le "tell_left" = true)
    (k_le : PySem.W.keepIn K (.ref f_le) = true)
    (a_no : PySem.W.nsIn K mainGlobals "tell_now" = some (some (.ref f_no)))
    (l_no : K.lookup f_no = some ⟨oc_no, od_no, .func (PySem.W.fnOf "tell_now" "tell_now" (defArgs sNow) (defBody sNow) (defScope sNow) .none kV_no dc_no pm_no an_no cd_no ct_no), sl_no⟩)
    (c_no : PySem.W.codeIn K cd_no "tell_now" = true)
    (k_no : PySem.W.keepIn K (.ref f_no) = true)
    (a_nx : PySem.W.nsIn K mainGlobals "tell_next" = some (some (.ref f_nx)))
    (l_nx : K.lookup f_nx = some ⟨oc_nx, od_nx, .func (PySem.W.fnOf "tell_next" "tell_next" (defArgs sNext) (defBody sNext) (defScope sNext) .none kV_nx dc_nx pm_nx an_nx cd_nx ct_nx), sl_nx⟩)
    (c_nx : PySem.W.codeIn K cd_nx "tell_next" = true)
    (k_nx : PySem.W.keepIn K (.ref f_nx) = true)
    (a_sh : PySem.W.nsIn K mainGlobals "show" = some (some (.ref f_sh)))
    (l_sh : K.lookup f_sh = some ⟨oc_sh, od_sh, .func (PySem.W.fnOf "show" "show" (defArgs sShow) (defBody sShow) (defScope sShow) .none kV_sh dc_sh pm_sh an_sh cd_sh ct_sh), sl_sh⟩)
    (c_sh : PySem.W.codeIn K cd_sh "show" = true)
    (k_sh : PySem.W.keepIn K (.ref f_sh) = true)
    (a_an : PySem.W.nsIn K mainGlobals "answer_call" = some (some (.ref f_an)))
    (l_an : K.lookup f_an = some ⟨oc_an, od_an, .func (PySem.W.fnOf "answer_call" "answer_call" (defArgs sAnswerCall) (defBody sAnswerCall) (defScope sAnswerCall) .none kV_an dc_an pm_an an_an cd_an ct_an), sl_an⟩)
    (c_an : PySem.W.codeIn K cd_an "answer_call" = true)
    (k_an : PySem.W.keepIn K (.ref f_an) = true)
    (a_as : PySem.W.nsIn K mainGlobals "answers" = some (some (.ref f_as)))
    (l_as : K.lookup f_as = some ⟨oc_as, od_as, .func (PySem.W.fnOf "answers" "answers" (defArgs sAnswers) (defBody sAnswers) (defScope sAnswers) .none kV_as dc_as pm_as an_as cd_as ct_as), sl_as⟩)
    (c_as : PySem.W.codeIn K cd_as "answers" = true)
    (k_as : PySem.W.keepIn K (.ref f_as) = true)
    (pgCC : PySem.W.plainGet K CC Str.empty = true)
    (hdCC : PySem.W.hasDictIn K CC = true)
    (poCC : PySem.W.plainOver K CC = true)
    (saCC : PySem.W.findIn K (.ref CC) "__setattr__" = some (some (.builtin "object.__setattr__")))
    (mkCC : PySem.W.makesIn K CC = true)
    (kcCC : PySem.W.keepIn K (.ref CC) = true)
    (pgCT : PySem.W.plainGet K CT Str.empty = true)
    (hdCT : PySem.W.hasDictIn K CT = true)
    (poCT : PySem.W.plainOver K CT = true)
    (saCT : PySem.W.findIn K (.ref CT) "__setattr__" = some (some (.builtin "object.__setattr__")))
    (mkCT : PySem.W.makesIn K CT = true)
    (kcCT : PySem.W.keepIn K (.ref CT) = true)
    (pgCG : PySem.W.plainGet K CG Str.empty = true)
    (hdCG : PySem.W.hasDictIn K CG = true)
    (poCG : PySem.W.plainOver K CG = true)
    (saCG : PySem.W.findIn K (.ref CG) "__setattr__" = some (some (.builtin "object.__setattr__")))
    (mkCG : PySem.W.makesIn K CG = true)
    (kcCG : PySem.W.keepIn K (.ref CG) = true)
    (nCC_hangs_on : PySem.W.findIn K (.ref CC) "hangs_on" = some none)
    (nCC_speed : PySem.W.findIn K (.ref CC) "speed" = some none)
    (nCC_ticks : PySem.W.findIn K (.ref CC) "ticks" = some none)
    (nCC_hundredths : PySem.W.findIn K (.ref CC) "hundredths" = some none)
    (nCT_number : PySem.W.findIn K (.ref CT) "number" = some none)
    (nCT_clock : PySem.W.findIn K (.ref CT) "clock" = some none)
    (nCT_due : PySem.W.findIn K (.ref CT) "due" = some none)
    (nCT_again : PySem.W.findIn K (.ref CT) "again" = some none)
    (nCG_step : PySem.W.findIn K (.ref CG) "step" = some none)
    (nCG_most : PySem.W.findIn K (.ref CG) "most" = some none)
    (nCG_left_over : PySem.W.findIn K (.ref CG) "left_over" = some none)
    (nCG_ticks : PySem.W.findIn K (.ref CG) "ticks" = some none)
    (nCG_lost : PySem.W.findIn K (.ref CG) "lost" = some none)
    (nCG_clocks : PySem.W.findIn K (.ref CG) "clocks" = some none)
    (nCG_timers : PySem.W.findIn K (.ref CG) "timers" = some none)
    (nCG_timers_given : PySem.W.findIn K (.ref CG) "timers_given" = some none)
    (z_len : PySem.W.nsIn K mainGlobals "len" = some none)
    (z_min : PySem.W.nsIn K mainGlobals "min" = some none)
    (z_sorted : PySem.W.nsIn K mainGlobals "sorted" = some none)
    (z_enumerate : PySem.W.nsIn K mainGlobals "enumerate" = some none)
    (v_OUT_OF_BOUNDS : PySem.W.nsIn K mainGlobals "OUT_OF_BOUNDS" = some (some (.int (-1) t_OUT_OF_BOUNDS)))
    (v_NO_SUCH_CLOCK : PySem.W.nsIn K mainGlobals "NO_SUCH_CLOCK" = some (some (.int (-2) t_NO_SUCH_CLOCK)))
    (v_NO_SUCH_TIMER : PySem.W.nsIn K mainGlobals "NO_SUCH_TIMER" = some (some (.int (-2) t_NO_SUCH_TIMER)))
    (v_TOO_MANY : PySem.W.nsIn K mainGlobals "TOO_MANY" = some (some (.int (-5) t_TOO_MANY)))
    (v_FIRST_STEP : PySem.W.nsIn K mainGlobals "FIRST_STEP" = some (some (.int 16 t_FIRST_STEP)))
    (v_FIRST_MOST : PySem.W.nsIn K mainGlobals "FIRST_MOST" = some (some (.int 5 t_FIRST_MOST)))
    (v_FULL_SPEED : PySem.W.nsIn K mainGlobals "FULL_SPEED" = some (some (.int 100 t_FULL_SPEED)))
    (v_HIGHEST_STEP : PySem.W.nsIn K mainGlobals "HIGHEST_STEP" = some (some (.int 1000 t_HIGHEST_STEP)))
    (v_HIGHEST_MOST : PySem.W.nsIn K mainGlobals "HIGHEST_MOST" = some (some (.int 50 t_HIGHEST_MOST)))
    (v_HIGHEST_PARTS : PySem.W.nsIn K mainGlobals "HIGHEST_PARTS" = some (some (.int 100000 t_HIGHEST_PARTS)))
    (v_HIGHEST_SPEED : PySem.W.nsIn K mainGlobals "HIGHEST_SPEED" = some (some (.int 200 t_HIGHEST_SPEED)))
    (v_HIGHEST_BEHIND : PySem.W.nsIn K mainGlobals "HIGHEST_BEHIND" = some (some (.int 1000 t_HIGHEST_BEHIND)))
    (v_HIGHEST_AGAIN : PySem.W.nsIn K mainGlobals "HIGHEST_AGAIN" = some (some (.int 1000 t_HIGHEST_AGAIN)))
    (v_CLOCKS_AT_MOST : PySem.W.nsIn K mainGlobals "CLOCKS_AT_MOST" = some (some (.int 6 t_CLOCKS_AT_MOST)))
    (v_TIMERS_AT_MOST : PySem.W.nsIn K mainGlobals "TIMERS_AT_MOST" = some (some (.int 12 t_TIMERS_AT_MOST)))
    (v_TICKS_AHEAD : PySem.W.nsIn K mainGlobals "TICKS_AHEAD" = some (some (.int 300 t_TICKS_AHEAD)))
    (v_BEGINS : PySem.W.nsIn K mainGlobals "BEGINS" = some (some (.int 0 t_BEGINS)))
    (v_FRAME : PySem.W.nsIn K mainGlobals "FRAME" = some (some (.int 1 t_FRAME)))
    (v_CLOCK : PySem.W.nsIn K mainGlobals "CLOCK" = some (some (.int 2 t_CLOCK)))
    (v_SPEED : PySem.W.nsIn K mainGlobals "SPEED" = some (some (.int 3 t_SPEED)))
    (v_TIMER : PySem.W.nsIn K mainGlobals "TIMER" = some (some (.int 4 t_TIMER)))
    (v_STOP : PySem.W.nsIn K mainGlobals "STOP" = some (some (.int 5 t_STOP)))
    (v_LEFT : PySem.W.nsIn K mainGlobals "LEFT" = some (some (.int 6 t_LEFT)))
    (v_NOW : PySem.W.nsIn K mainGlobals "NOW" = some (some (.int 7 t_NOW)))
    (v_NEXT : PySem.W.nsIn K mainGlobals "NEXT" = some (some (.int 8 t_NEXT)))
    (aWd : PySem.W.nsIn K mainGlobals "WIDTHS" = some (some (.ref aW)))
    (lWd : K.lookup aW = some ⟨.type "tuple", odW, .seq itsW nW, slW⟩)
    (sWd : itsW.size ≤ sizeLine)
    (vWd : Vals (vN [3, 2, 3, 3, 4, 2, 2, 2, 1, 1]) itsW.toList)
    : ∃ fd : FuncData, (∀ (s : Shared) (us : List Value), us.length = (["calls"] : List Str).length → BindsTo s fd ⟨us, []⟩ ((["calls"] : List Str).zip us)) ∧ ∀ base : Heap, K.In base → base.Ns mainGlobals mg → FnOk P w K mg base CX0 7 fa fd ["calls"] (spAnswers K) := by
  have e := hfa.symm.trans (PySem.W.mg_of X G a_as)
  cases e
  have T : Txt K mg CG CC CT := ⟨⟨pgCC, hdCC, poCC, saCC⟩, nCC_hangs_on, nCC_speed, nCC_ticks, nCC_hundredths, ⟨pgCT, hdCT, poCT, saCT⟩, nCT_number, nCT_clock, nCT_due, nCT_again, ⟨pgCG, hdCG, poCG, saCG⟩, nCG_step, nCG_most, nCG_left_over, nCG_ticks, nCG_lost, nCG_clocks, nCG_timers, nCG_timers_given, PySem.W.mg_of X G aCC, PySem.W.mg_of X G aCT, PySem.W.mg_of X G aCG, PySem.W.mg_none_of X G z_len, PySem.W.mg_none_of X G z_min, PySem.W.mg_none_of X G z_sorted, PySem.W.mg_none_of X G z_enumerate, ⟨_, PySem.W.mg_of X G v_OUT_OF_BOUNDS⟩, ⟨_, PySem.W.mg_of X G v_NO_SUCH_CLOCK⟩, ⟨_, PySem.W.mg_of X G v_NO_SUCH_TIMER⟩, ⟨_, PySem.W.mg_of X G v_TOO_MANY⟩, ⟨_, PySem.W.mg_of X G v_FIRST_STEP⟩, ⟨_, PySem.W.mg_of X G v_FIRST_MOST⟩, ⟨_, PySem.W.mg_of X G v_FULL_SPEED⟩, ⟨_, PySem.W.mg_of X G v_HIGHEST_STEP⟩, ⟨_, PySem.W.mg_of X G v_HIGHEST_MOST⟩, ⟨_, PySem.W.mg_of X G v_HIGHEST_PARTS⟩, ⟨_, PySem.W.mg_of X G v_HIGHEST_SPEED⟩, ⟨_, PySem.W.mg_of X G v_HIGHEST_BEHIND⟩, ⟨_, PySem.W.mg_of X G v_HIGHEST_AGAIN⟩, ⟨_, PySem.W.mg_of X G v_CLOCKS_AT_MOST⟩, ⟨_, PySem.W.mg_of X G v_TIMERS_AT_MOST⟩, ⟨_, PySem.W.mg_of X G v_TICKS_AHEAD⟩, ⟨_, PySem.W.mg_of X G v_BEGINS⟩, ⟨_, PySem.W.mg_of X G v_FRAME⟩, ⟨_, PySem.W.mg_of X G v_CLOCK⟩, ⟨_, PySem.W.mg_of X G v_SPEED⟩, ⟨_, PySem.W.mg_of X G v_TIMER⟩, ⟨_, PySem.W.mg_of X G v_STOP⟩, ⟨_, PySem.W.mg_of X G v_LEFT⟩, ⟨_, PySem.W.mg_of X G v_NOW⟩, ⟨_, PySem.W.mg_of X G v_NEXT⟩⟩
  have F_ci := fun_mk (st := sCInit) l_ci c_ci k_ci
  have b_ci := F_ci.binds (ps := ["self", "hangs_on", "speed"]) fun _ _ _ _ _ _ us hl => match us, hl with | [_, _, _], _ => rfl
  have F_go := fun_mk (st := sGoOn) l_go c_go k_go
  have b_go := F_go.binds (ps := ["self", "given"]) fun _ _ _ _ _ _ us hl => match us, hl with | [_, _], _ => rfl
  have F_tw := fun_mk (st := sTwin) l_tw c_tw k_tw
  have b_tw := F_tw.binds (ps := ["self"]) fun _ _ _ _ _ _ us hl => match us, hl with | [_], _ => rfl
  have F_mo := fun_mk (st := sMove) l_mo c_mo k_mo
  have b_mo := F_mo.binds (ps := ["clocks"]) fun _ _ _ _ _ _ us hl => match us, hl with | [_], _ => rfl
  have F_ti := fun_mk (st := sTInit) l_ti c_ti k_ti
  have b_ti := F_ti.binds (ps := ["self", "number", "clock", "due", "again"]) fun _ _ _ _ _ _ us hl => match us, hl with | [_, _, _, _, _], _ => rfl
  have F_du := fun_mk (st := sDues) l_du c_du k_du
  have b_du := F_du.binds (ps := ["self", "ticks"]) fun _ _ _ _ _ _ us hl => match us, hl with | [_, _], _ => rfl
  have F_fs := fun_mk (st := sFirst) l_fs c_fs k_fs
  have b_fs := F_fs.binds (ps := ["self", "ahead"]) fun _ _ _ _ _ _ us hl => match us, hl with | [_, _], _ => rfl
  have F_gi := fun_mk (st := sGInit) l_gi c_gi k_gi
  have b_gi := F_gi.binds (ps := ["self"]) fun _ _ _ _ _ _ us hl => match us, hl with | [_], _ => rfl
  have F_re := fun_mk (st := sRestart) l_re c_re k_re
  have b_re := F_re.binds (ps := ["self", "step", "most"]) fun _ _ _ _ _ _ us hl => match us, hl with | [_, _, _], _ => rfl
  have F_ha := fun_mk (st := sHas) l_ha c_ha k_ha
  have b_ha := F_ha.binds (ps := ["self", "number"]) fun _ _ _ _ _ _ us hl => match us, hl with | [_, _], _ => rfl
  have F_fi := fun_mk (st := sFind) l_fi c_fi k_fi
  have b_fi := F_fi.binds (ps := ["self", "number"]) fun _ _ _ _ _ _ us hl => match us, hl with | [_, _], _ => rfl
  have F_pa := fun_mk (st := sParts) l_pa c_pa k_pa
  have b_pa := F_pa.binds (ps := ["self", "parts"]) fun _ _ _ _ _ _ us hl => match us, hl with | [_, _], _ => rfl
  have F_ah := fun_mk (st := sAhead) l_ah c_ah k_ah
  have b_ah := F_ah.binds (ps := ["self"]) fun _ _ _ _ _ _ us hl => match us, hl with | [_], _ => rfl
  have F_ri := fun_mk (st := sRings) l_ri c_ri k_ri
  have b_ri := F_ri.binds (ps := ["self"]) fun _ _ _ _ _ _ us hl => match us, hl with | [_], _ => rfl
  have F_tk := fun_mk (st := sTick) l_tk c_tk k_tk
  have b_tk := F_tk.binds (ps := ["self"]) fun _ _ _ _ _ _ us hl => match us, hl with | [_], _ => rfl
  have F_be := fun_mk (st := sBegin) l_be c_be k_be
  have b_be := F_be.binds (ps := ["game", "step", "most"]) fun _ _ _ _ _ _ us hl => match us, hl with | [_, _, _], _ => rfl
  have F_fr := fun_mk (st := sFrame) l_fr c_fr k_fr
  have b_fr := F_fr.binds (ps := ["game", "parts"]) fun _ _ _ _ _ _ us hl => match us, hl with | [_, _], _ => rfl
  have F_ac := fun_mk (st := sAddC) l_ac c_ac k_ac
  have b_ac := F_ac.binds (ps := ["game", "on", "speed"]) fun _ _ _ _ _ _ us hl => match us, hl with | [_, _, _], _ => rfl
  have F_sp := fun_mk (st := sSpeed) l_sp c_sp k_sp
  have b_sp := F_sp.binds (ps := ["game", "number", "speed"]) fun _ _ _ _ _ _ us hl => match us, hl with | [_, _, _], _ => rfl
  have F_at := fun_mk (st := sAddT) l_at c_at k_at
  have b_at := F_at.binds (ps := ["game", "on", "behind", "again"]) fun _ _ _ _ _ _ us hl => match us, hl with | [_, _, _, _], _ => rfl
  have F_st := fun_mk (st := sStop) l_st c_st k_st
  have b_st := F_st.binds (ps := ["game", "number"]) fun _ _ _ _ _ _ us hl => match us, hl with | [_, _], _ => rfl
  have F_le := fun_mk (st := sLeft) l_le c_le k_le
  have b_le := F_le.binds (ps := ["game", "number"]) fun _ _ _ _ _ _ us hl => match us, hl with | [_, _], _ => rfl
  have F_no := fun_mk (st := sNow) l_no c_no k_no
  have b_no := F_no.binds (ps := ["game", "number"]) fun _ _ _ _ _ _ us hl => match us, hl with | [_, _], _ => rfl
  have F_nx := fun_mk (st := sNext) l_nx c_nx k_nx
  have b_nx := F_nx.binds (ps := ["game"]) fun _ _ _ _ _ _ us hl => match us, hl with | [_], _ => rfl
  have F_sh := fun_mk (st := sShow) l_sh c_sh k_sh
  have b_sh := F_sh.binds (ps := ["game"]) fun _ _ _ _ _ _ us hl => match us, hl with | [_], _ => rfl
  have F_an := fun_mk (st := sAnswerCall) l_an c_an k_an
  have b_an := F_an.binds (ps := ["game", "call"]) fun _ _ _ _ _ _ us hl => match us, hl with | [_, _], _ => rfl
  have F_as := fun_mk (st := sAnswers) l_as c_as k_as
  have hW : ∀ H, SqT K H aW (vN [3, 2, 3, 3, 4, 2, 2, 2, 1, 1]) := fun H => .inr ⟨_, itsW, nW, lWd, rfl, rfl, sWd, vWd⟩
  refine ⟨PySem.W.fnOf "answers" "answers" (defArgs sAnswers) (defBody sAnswers) (defScope sAnswers) .none kV_as dc_as pm_as an_as cd_as ct_as, fun s us hu => match us, hu with | [_], _ => .of_eq rfl, fun base _ _ => ?_⟩
  have GCI : FnOk P w K mg base CX0 1 f_ci _ _ (spCInit CC) := ok_cinit F_ci T
  have GGo : FnOk P w K mg base CX0 1 f_go _ _ (spGoOn CC) := ok_goOn F_go T
  have GTw : FnOk P w K mg base CX0 3 f_tw _ _ (spTwin CC) := ok_twin F_tw T ⟨mkCC, a_ci, i_ci, kcCC⟩ GCI b_ci
  have GMo : FnOk P w K mg base CX0 2 f_mo _ _ (spMove CC) := ok_move F_mo T GGo b_go ⟨a_go, i_go, k_go⟩
  have GTI : FnOk P w K mg base CX0 1 f_ti _ _ (spTInit CT) := ok_tinit F_ti T
  have GDu : FnOk P w K mg base CX0 1 f_du _ _ (spDues CT) := ok_dues F_du T
  have GFs : FnOk P w K mg base CX0 1 f_fs _ _ (spFirst CT) := ok_first F_fs T
  have GRe : FnOk P w K mg base CX0 3 f_re _ _ (spRestart CG CC CT) := ok_restart F_re T ⟨mkCC, a_ci, i_ci, kcCC⟩ F_ci b_ci
  have GGI : FnOk P w K mg base CX0 4 f_gi _ _ (spGInit CG CC CT) := ok_ginit F_gi T GRe b_re ⟨a_re, i_re, k_re⟩
  have GHa : FnOk P w K mg base CX0 1 f_ha _ _ (spHas CG CC CT) := ok_has F_ha T
  have GFi : FnOk P w K mg base CX0 1 f_fi _ _ (spFind CG CC CT) := ok_find F_fi T
  have GPa : FnOk P w K mg base CX0 1 f_pa _ _ (spParts CG CC CT) := ok_parts F_pa T
  have GAh : FnOk P w K mg base CX0 4 f_ah _ _ (spAhead CG CC CT) := ok_ahead F_ah T GTw b_tw ⟨a_tw, i_tw, k_tw⟩ GMo b_mo (PySem.W.mg_of X G a_mo) k_mo
  have GRi : FnOk P w K mg base CX0 2 f_ri _ _ (spRings CG CC CT) := ok_rings F_ri T GDu b_du ⟨a_du, i_du, k_du⟩
  have GTk : FnOk P w K mg base CX0 3 f_tk _ _ (spTick CG CC CT) := ok_tick F_tk T GMo b_mo (PySem.W.mg_of X G a_mo) k_mo GRi b_ri ⟨a_ri, i_ri, k_ri⟩
  have G0 : FnOk P w K mg base CX0 4 f_be _ _ (spCall2 CG CC CT .begins) := ok_begin F_be T GRe b_re ⟨a_re, i_re, k_re⟩
  have G1 : FnOk P w K mg base CX0 4 f_fr _ _ (spCall1 CG CC CT .frame) := ok_frame F_fr T GPa b_pa ⟨a_pa, i_pa, k_pa⟩ GTk b_tk ⟨a_tk, i_tk, k_tk⟩
  have G2 : FnOk P w K mg base CX0 3 f_ac _ _ (spCall2 CG CC CT .clock) := ok_addC F_ac T GHa b_ha ⟨a_ha, i_ha, k_ha⟩ ⟨mkCC, a_ci, i_ci, kcCC⟩ GCI b_ci
  have G3 : FnOk P w K mg base CX0 2 f_sp _ _ (spCall2 CG CC CT .speed) := ok_speed F_sp T GHa b_ha ⟨a_ha, i_ha, k_ha⟩
  have G4 : FnOk P w K mg base CX0 3 f_at _ _ (spCall3 CG CC CT .timer) := ok_addT F_at T GHa b_ha ⟨a_ha, i_ha, k_ha⟩ ⟨mkCT, a_ti, i_ti, kcCT⟩ GTI b_ti
  have G5 : FnOk P w K mg base CX0 2 f_st _ _ (spCall1 CG CC CT .halt_) := ok_stop F_st T GFi b_fi ⟨a_fi, i_fi, k_fi⟩
  have G6 : FnOk P w K mg base CX0 2 f_le _ _ (spCall1 CG CC CT .left) := ok_left F_le T GFi b_fi ⟨a_fi, i_fi, k_fi⟩
  have G7 : FnOk P w K mg base CX0 2 f_no _ _ (spCall1 CG CC CT .now) := ok_now F_no T GHa b_ha ⟨a_ha, i_ha, k_ha⟩
  have G8 : FnOk P w K mg base CX0 5 f_nx _ _ (spCall0 CG CC CT .next) := ok_next F_nx T GAh b_ah ⟨a_ah, i_ah, k_ah⟩ GFs b_fs ⟨a_fs, i_fs, k_fs⟩
  have G9 : FnOk P w K mg base CX0 1 f_sh _ _ (spCall0 CG CC CT .shows) := ok_show F_sh T
  have GA : FnOk P w K mg base CX0 6 f_an _ _ (spAnswer CG CC CT) := ok_answer F_an T G0 b_be (PySem.W.mg_of X G a_be) k_be G1 b_fr (PySem.W.mg_of X G a_fr) k_fr G2 b_ac (PySem.W.mg_of X G a_ac) k_ac G3 b_sp (PySem.W.mg_of X G a_sp) k_sp G4 b_at (PySem.W.mg_of X G a_at) k_at G5 b_st (PySem.W.mg_of X G a_st) k_st G6 b_le (PySem.W.mg_of X G a_le) k_le G7 b_no (PySem.W.mg_of X G a_no) k_no G8 b_nx (PySem.W.mg_of X G a_nx) k_nx G9 b_sh (PySem.W.mg_of X G a_sh) k_sh
  exact ok_answers F_as T ⟨mkCG, a_gi, i_gi, kcCG⟩ GGI b_gi GA b_an (PySem.W.mg_of X G a_an) k_an (PySem.W.mg_of X G aWd) hW
end Tk
open PySem PySem.W PyProof.Rows
set_option maxRecDepth 100000 in
set_option maxHeartbeats 0 in
theorem PySem.Challenge.cw_tickclocks_s01_answers_holds : PySem.Challenge.rw_tickclocks_s01_answers.Holds := by
  w_on; k_headS; (case hw => exact ⟨[.list [.int 9]], by decide +kernel, by decide +kernel⟩)
  k_fillS
  refine L2.walk_specK (r := PySem.Challenge.rw_tickclocks_s01_answers) (k := 7) (CX := L2.CX0) (ps := ["calls"]) (sp := Tk.spAnswers) (by decide +kernel) rfl rfl ⟨rfl, by decide, by decide⟩ (fun w h Y => PySem.W.kIn_of Y) ?F ?S (fun _ _ _ _ z => z)
  case F =>
    intro w mg fa h Y KX G hmg
    refine' Tk.all_mk KX G hmg ?aCC ?aCT ?aCG ?a_ci ?i_ci ?l_ci ?c_ci ?k_ci ?a_go ?i_go ?l_go ?c_go ?k_go ?a_tw ?i_tw ?l_tw ?c_tw ?k_tw ?a_mo ?l_mo ?c_mo ?k_mo ?a_ti ?i_ti ?l_ti ?c_ti ?k_ti ?a_du ?i_du ?l_du ?c_du ?k_du ?a_fs ?i_fs ?l_fs ?c_fs ?k_fs ?a_gi ?i_gi ?l_gi ?c_gi ?k_gi ?a_re ?i_re ?l_re ?c_re ?k_re ?a_ha ?i_ha ?l_ha ?c_ha ?k_ha ?a_fi ?i_fi ?l_fi ?c_fi ?k_fi ?a_pa ?i_pa ?l_pa ?c_pa ?k_pa ?a_ah ?i_ah ?l_ah ?c_ah ?k_ah ?a_ri ?i_ri ?l_ri ?c_ri ?k_ri ?a_tk ?i_tk ?l_tk ?c_tk ?k_tk ?a_be ?l_be ?c_be ?k_be ?a_fr ?l_fr ?c_fr ?k_fr ?a_ac ?l_ac ?c_ac ?k_ac ?a_sp ?l_sp ?c_sp ?k_sp ?a_at ?l_at ?c_at ?k_at ?a_st ?l_st ?c_st ?k_st ?a_le ?l_le ?c_le ?k_le ?a_no ?l_no ?c_no ?k_no ?a_nx ?l_nx ?c_nx ?k_nx ?a_sh ?l_sh ?c_sh ?k_sh ?a_an ?l_an ?c_an ?k_an ?a_as ?l_as ?c_as ?k_as ?pgCC ?hdCC ?poCC ?saCC ?mkCC ?kcCC ?pgCT ?hdCT ?poCT ?saCT ?mkCT ?kcCT ?pgCG ?hdCG ?poCG ?saCG ?mkCG ?kcCG ?nCC_hangs_on ?nCC_speed ?nCC_ticks ?nCC_hundredths ?nCT_number ?nCT_clock ?nCT_due ?nCT_again ?nCG_step ?nCG_most ?nCG_left_over ?nCG_ticks ?nCG_lost ?nCG_clocks ?nCG_timers ?nCG_timers_given ?z_len ?z_min ?z_sorted ?z_enumerate ?v_OUT_OF_BOUNDS ?v_NO_SUCH_CLOCK ?v_NO_SUCH_TIMER ?v_TOO_MANY ?v_FIRST_STEP ?v_FIRST_MOST ?v_FULL_SPEED ?v_HIGHEST_STEP ?v_HIGHEST_MOST ?v_HIGHEST_PARTS ?v_HIGHEST_SPEED ?v_HIGHEST_BEHIND ?v_HIGHEST_AGAIN ?v_CLOCKS_AT_MOST ?v_TIMERS_AT_MOST ?v_TICKS_AHEAD ?v_BEGINS ?v_FRAME ?v_CLOCK ?v_SPEED ?v_TIMER ?v_STOP ?v_LEFT ?v_NOW ?v_NEXT ?aWd ?lWd ?sWd ?vWd
    (case aCC => k_is)
    (case aCT => k_is)
    (case aCG => k_is)
    (case a_ci => k_is)
    (case i_ci => k_is)
    (case l_ci => k_is)
    (case c_ci => k_is)
    (case k_ci => k_is)
    (case a_go => k_is)
    (case i_go => k_is)
    (case l_go => k_is)
    (case c_go => k_is)
    (case k_go => k_is)
    (case a_tw => k_is)
    (case i_tw => k_is)
    (case l_tw => k_is)
    (case c_tw => k_is)
    (case k_tw => k_is)
    (case a_mo => k_is)
    (case l_mo => k_is)
    (case c_mo => k_is)
    (case k_mo => k_is)
    (case a_ti => k_is)
    (case i_ti => k_is)
    (case l_ti => k_is)
    (case c_ti => k_is)
    (case k_ti => k_is)
    (case a_du => k_is)
    (case i_du => k_is)
    (case l_du => k_is)
    (case c_du => k_is)
    (case k_du => k_is)
    (case a_fs => k_is)
    (case i_fs => k_is)
    (case l_fs => k_is)
    (case c_fs => k_is)
    (case k_fs => k_is)
    (case a_gi => k_is)
    (case i_gi => k_is)
    (case l_gi => k_is)
    (case c_gi => k_is)
    (case k_gi => k_is)
    (case a_re => k_is)
    (case i_re => k_is)
    (case l_re => k_is)
    (case c_re => k_is)
    (case k_re => k_is)
    (case a_ha => k_is)
    (case i_ha => k_is)
    (case l_ha => k_is)
    (case c_ha => k_is)
    (case k_ha => k_is)
    (case a_fi => k_is)
    (case i_fi => k_is)
    (case l_fi => k_is)
    (case c_fi => k_is)
    (case k_fi => k_is)
    (case a_pa => k_is)
    (case i_pa => k_is)
    (case l_pa => k_is)
    (case c_pa => k_is)
    (case k_pa => k_is)
    (case a_ah => k_is)
    (case i_ah => k_is)
    (case l_ah => k_is)
    (case c_ah => k_is)
    (case k_ah => k_is)
    (case a_ri => k_is)
    (case i_ri => k_is)
    (case l_ri => k_is)
    (case c_ri => k_is)
    (case k_ri => k_is)
    (case a_tk => k_is)
    (case i_tk => k_is)
    (case l_tk => k_is)
    (case c_tk => k_is)
    (case k_tk => k_is)
    (case a_be => k_is)
    (case l_be => k_is)
    (case c_be => k_is)
    (case k_be => k_is)
    (case a_fr => k_is)
    (case l_fr => k_is)
    (case c_fr => k_is)
    (case k_fr => k_is)
    (case a_ac => k_is)
    (case l_ac => k_is)
    (case c_ac => k_is)
    (case k_ac => k_is)
    (case a_sp => k_is)
    (case l_sp => k_is)
    (case c_sp => k_is)
    (case k_sp => k_is)
    (case a_at => k_is)
    (case l_at => k_is)
    (case c_at => k_is)
    (case k_at => k_is)
    (case a_st => k_is)
    (case l_st => k_is)
    (case c_st => k_is)
    (case k_st => k_is)
    (case a_le => k_is)
    (case l_le => k_is)
    (case c_le => k_is)
    (case k_le => k_is)
    (case a_no => k_is)
    (case l_no => k_is)
    (case c_no => k_is)
    (case k_no => k_is)
    (case a_nx => k_is)
    (case l_nx => k_is)
    (case c_nx => k_is)
    (case k_nx => k_is)
    (case a_sh => k_is)
    (case l_sh => k_is)
    (case c_sh => k_is)
    (case k_sh => k_is)
    (case a_an => k_is)
    (case l_an => k_is)
    (case c_an => k_is)
    (case k_an => k_is)
    (case a_as => k_is)
    (case l_as => k_is)
    (case c_as => k_is)
    (case k_as => k_is)
    (case pgCC => k_is)
    (case hdCC => k_is)
    (case poCC => k_is)
    (case saCC => k_is)
    (case mkCC => k_is)
    (case kcCC => k_is)
    (case pgCT => k_is)
    (case hdCT => k_is)
    (case poCT => k_is)
    (case saCT => k_is)
    (case mkCT => k_is)
    (case kcCT => k_is)
    (case pgCG => k_is)
    (case hdCG => k_is)
    (case poCG => k_is)
    (case saCG => k_is)
    (case mkCG => k_is)
    (case kcCG => k_is)
    (case nCC_hangs_on => k_is)
    (case nCC_speed => k_is)
    (case nCC_ticks => k_is)
    (case nCC_hundredths => k_is)
    (case nCT_number => k_is)
    (case nCT_clock => k_is)
    (case nCT_due => k_is)
    (case nCT_again => k_is)
    (case nCG_step => k_is)
    (case nCG_most => k_is)
    (case nCG_left_over => k_is)
    (case nCG_ticks => k_is)
    (case nCG_lost => k_is)
    (case nCG_clocks => k_is)
    (case nCG_timers => k_is)
    (case nCG_timers_given => k_is)
    (case z_len => k_is)
    (case z_min => k_is)
    (case z_sorted => k_is)
    (case z_enumerate => k_is)
    (case v_OUT_OF_BOUNDS => k_is)
    (case v_NO_SUCH_CLOCK => k_is)
    (case v_NO_SUCH_TIMER => k_is)
    (case v_TOO_MANY => k_is)
    (case v_FIRST_STEP => k_is)
    (case v_FIRST_MOST => k_is)
    (case v_FULL_SPEED => k_is)
    (case v_HIGHEST_STEP => k_is)
    (case v_HIGHEST_MOST => k_is)
    (case v_HIGHEST_PARTS => k_is)
    (case v_HIGHEST_SPEED => k_is)
    (case v_HIGHEST_BEHIND => k_is)
    (case v_HIGHEST_AGAIN => k_is)
    (case v_CLOCKS_AT_MOST => k_is)
    (case v_TIMERS_AT_MOST => k_is)
    (case v_TICKS_AHEAD => k_is)
    (case v_BEGINS => k_is)
    (case v_FRAME => k_is)
    (case v_CLOCK => k_is)
    (case v_SPEED => k_is)
    (case v_TIMER => k_is)
    (case v_STOP => k_is)
    (case v_LEFT => k_is)
    (case v_NOW => k_is)
    (case v_NEXT => k_is)
    (case aWd => k_is)
    (case lWd => k_is)
    (case sWd => (show _ ≤ 2 ^ 24; decide +kernel))
    (case vWd => exact (.cons ⟨_, rfl⟩ (.cons ⟨_, rfl⟩ (.cons ⟨_, rfl⟩ (.cons ⟨_, rfl⟩ (.cons ⟨_, rfl⟩ (.cons ⟨_, rfl⟩ (.cons ⟨_, rfl⟩ (.cons ⟨_, rfl⟩ (.cons ⟨_, rfl⟩ (.cons ⟨_, rfl⟩ .nil)))))))))))
  case S =>
    intro K H xs a hO hwi hask hx
    cases hx with
    | cons h1 h2 =>
      cases h2
      cases h1 with
      | lst hs ha =>
        have e := L2.ints_dw a.1 _ ha
        subst e
        exact ⟨_, a.1, rfl, hs, hask, fun H' p hp => .lst (L2.SqL.of hp) (L2.dw_ints _)⟩

