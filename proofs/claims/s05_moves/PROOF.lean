import PyProof.Rows.All
import Wide.All
import OpenK.AllK
import Wide.FinOn
import PyProof.EqAt
import PyProof.EqKinds
import PyProof.TupleCall
import KE.BitLaws
import Open.SpecLaws
import KE.OsHead
import KE.OsGo
import PySem.Challenge.RW_collation_s05_moves
namespace Cm
open Vh

/-! ### the costs to the end, place by place -/
def cst : List Cell → List Cell → Costs
  | [], [] => NOUGHT
  | [], d :: y => costsHere none (some d) NOUGHT (cst [] y) NOUGHT
  | c :: x, [] => costsHere (some c) none (cst x []) NOUGHT NOUGHT
  | c :: x, d :: y => costsHere (some c) (some d) (cst x (d :: y)) (cst (c :: x) y) (cst x y)
termination_by x y => x.length + y.length

/-- the suffixes' costs, as a row -/
def rowOf (x : List Cell) : List Cell → List Costs
  | [] => [cst x []]
  | d :: y => cst x (d :: y) :: rowOf x y
theorem rowOf_head (x y : List Cell) : (rowOf x y).headD NOUGHT = cst x y := by cases y <;> rfl
theorem rowOf_drop (x : List Cell) (d : Cell) (y : List Cell) : (rowOf x (d :: y)).drop 1 = rowOf x y := rfl
theorem row_none : ∀ y : List Cell, costRow none NOUGHT y [] = rowOf [] y
  | [] => by simp [costRow, rowOf, cst]
  | d :: y => by
    have ih := row_none y
    simp only [costRow, List.drop_nil, List.headD_nil]
    rw [ih, rowOf_head, rowOf]
    simp only [cst]
theorem row_some (c : Cell) (x : List Cell) : ∀ y : List Cell, costRow (some c) NOUGHT y (rowOf x y) = rowOf (c :: x) y
  | [] => by
    simp only [costRow, rowOf, List.headD_cons]
    rw [cst]
  | d :: y => by
    have ih := row_some c x y
    simp only [costRow]
    rw [rowOf_drop, ih, rowOf_head, rowOf_head, rowOf_head, rowOf]
    congr 1
    rw [cst]
theorem grid_head (y : List Cell) : ∀ x : List Cell, (costGrid NOUGHT y x).headD [] = rowOf x y
  | [] => row_none y
  | c :: x => by
    simp only [costGrid, List.headD_cons]
    rw [grid_head y x, row_some]
theorem least_eq (x y : List Cell) : leastCost x y = (cst x y).plain := by
  unfold leastCost costAt
  rw [grid_head]
  cases y <;> rfl

/-! ### the options, cell by cell -/
theorem here_ww (l m : Letters) (d r b : Costs) : costsHere (some (.word l)) (some (.word m)) d r b =
    ⟨min (min (pairCost l m + b.plain) (3 + d.plain)) (3 + r.plain), min (min (min (pairCost l m + b.plain) (0 + d.other)) (3 + d.plain)) (3 + r.plain),
     min (min (min (pairCost l m + b.plain) (0 + r.base)) (3 + d.plain)) (3 + r.plain)⟩ := rfl
theorem here_wg (l : Letters) (d r b : Costs) : costsHere (some (.word l)) (some .gap) d r b =
    ⟨min (3 + d.plain) (0 + r.other), min (min (0 + d.other) (3 + d.plain)) (0 + r.other), min (3 + d.plain) (0 + r.other)⟩ := rfl
theorem here_wn (l : Letters) (d r b : Costs) : costsHere (some (.word l)) none d r b = ⟨3 + d.plain, min (0 + d.other) (3 + d.plain), 3 + d.plain⟩ := rfl
theorem here_gw (m : Letters) (d r b : Costs) : costsHere (some .gap) (some (.word m)) d r b =
    ⟨min (3 + r.plain) (0 + d.base), min (3 + r.plain) (0 + d.base), min (min (0 + r.base) (3 + r.plain)) (0 + d.base)⟩ := rfl
theorem here_gg (d r b : Costs) : costsHere (some .gap) (some .gap) d r b =
    ⟨min (0 + d.base) (0 + r.other), min (0 + d.base) (0 + r.other), min (0 + d.base) (0 + r.other)⟩ := rfl
theorem here_gn (d r b : Costs) : costsHere (some .gap) none d r b = ⟨0 + d.base, 0 + d.base, 0 + d.base⟩ := rfl
theorem here_nw (m : Letters) (d r b : Costs) : costsHere none (some (.word m)) d r b = ⟨3 + r.plain, 3 + r.plain, min (0 + r.base) (3 + r.plain)⟩ := rfl
theorem here_ng (d r b : Costs) : costsHere none (some .gap) d r b = ⟨0 + r.other, 0 + r.other, 0 + r.other⟩ := rfl

/-! ### what the costs keep to -/
theorem f1 (x : List Cell) (m : Letters) (y : List Cell) : (cst x (.word m :: y)).plain ≤ 3 + (cst x y).plain := by
  rcases x with _ | ⟨_ | _, x⟩ <;> rw [cst] <;> simp only [here_nw, here_ww, here_gw] <;> omega
theorem f2 (x : List Cell) (y : List Cell) : (cst x (.gap :: y)).plain ≤ (cst x y).other := by
  rcases x with _ | ⟨_ | _, x⟩ <;> rw [cst] <;> simp only [here_ng, here_wg, here_gg] <;> omega
theorem f3 (x y : List Cell) : (cst x y).other ≤ (cst x y).plain := by
  rcases x with _ | ⟨_ | _, x⟩ <;> rcases y with _ | ⟨_ | _, y⟩ <;> rw [cst] <;> simp only [NOUGHT, here_nw, here_ng, here_ww, here_wg, here_wn, here_gw, here_gg, here_gn] <;> omega
theorem f4 (x y : List Cell) : (cst x y).base ≤ (cst x y).plain := by
  rcases x with _ | ⟨_ | _, x⟩ <;> rcases y with _ | ⟨_ | _, y⟩ <;> rw [cst] <;> simp only [NOUGHT, here_nw, here_ng, here_ww, here_wg, here_wn, here_gw, here_gg, here_gn] <;> omega
theorem f4w (x : List Cell) (m : Letters) (y : List Cell) : (cst x (.word m :: y)).base ≤ (cst x y).base := by
  rcases x with _ | ⟨_ | _, x⟩ <;> rw [cst] <;> simp only [here_nw, here_ww, here_gw] <;> omega
theorem f5w (x : List Cell) (m : Letters) (y : List Cell) : (cst x (.word m :: y)).base = (cst x (.word m :: y)).plain ∨ (cst x (.word m :: y)).base = (cst x y).base := by
  rcases x with _ | ⟨_ | _, x⟩ <;> rw [cst] <;> simp only [here_nw, here_ww, here_gw] <;> omega
theorem f5g (x y : List Cell) : (cst x (.gap :: y)).base = (cst x (.gap :: y)).plain := by
  rcases x with _ | ⟨_ | _, x⟩ <;> rw [cst] <;> simp only [here_ng, here_wg, here_gg]
theorem f5n (x : List Cell) : (cst x []).base = (cst x []).plain := by
  rcases x with _ | ⟨_ | _, x⟩ <;> rw [cst] <;> simp only [NOUGHT, here_wn, here_gn]
theorem w1 (l : Letters) (x y : List Cell) : (cst (.word l :: x) y).plain ≤ 3 + (cst x y).plain := by
  rcases y with _ | ⟨_ | _, y⟩ <;> rw [cst] <;> simp only [here_ww, here_wg, here_wn] <;> omega
theorem w2 (l m : Letters) (x y : List Cell) : (cst (.word l :: x) (.word m :: y)).plain ≤ pairCost l m + (cst x y).plain := by
  rw [cst]; simp only [here_ww]; omega
theorem w3 (l : Letters) (x y : List Cell) : (cst (.word l :: x) y).other ≤ (cst x y).other := by
  rcases y with _ | ⟨_ | _, y⟩ <;> rw [cst] <;> simp only [here_ww, here_wg, here_wn] <;> omega
theorem w4w (l m : Letters) (x y : List Cell) : (cst (.word l :: x) (.word m :: y)).plain = 3 + (cst x (.word m :: y)).plain ∨
    (cst (.word l :: x) (.word m :: y)).plain = pairCost l m + (cst x y).plain ∨ (cst (.word l :: x) (.word m :: y)).plain = 3 + (cst (.word l :: x) y).plain := by
  rw [cst]; simp only [here_ww]; omega
theorem w4g (l : Letters) (x y : List Cell) : (cst (.word l :: x) (.gap :: y)).plain = 3 + (cst x (.gap :: y)).plain ∨
    (cst (.word l :: x) (.gap :: y)).plain = (cst (.word l :: x) y).other := by
  rw [cst]; simp only [here_wg]; omega
theorem w4n (l : Letters) (x : List Cell) : (cst (.word l :: x) []).plain = 3 + (cst x []).plain := by
  rw [cst]; simp only [here_wn]
theorem w5 (l : Letters) (x y : List Cell) : (cst (.word l :: x) y).other = (cst x y).other ∨ (cst (.word l :: x) y).other = (cst (.word l :: x) y).plain := by
  rcases y with _ | ⟨_ | _, y⟩ <;> rw [cst] <;> simp only [here_ww, here_wg, here_wn] <;> omega
theorem g1 (x y : List Cell) : (cst (.gap :: x) y).plain ≤ (cst x y).base := by
  rcases y with _ | ⟨_ | _, y⟩ <;> rw [cst] <;> simp only [here_gw, here_gg, here_gn] <;> omega
theorem g2 (x y : List Cell) : (cst (.gap :: x) y).other = (cst (.gap :: x) y).plain := by
  rcases y with _ | ⟨_ | _, y⟩ <;> rw [cst] <;> simp only [here_gw, here_gg, here_gn]
theorem g4w (m : Letters) (x y : List Cell) : (cst (.gap :: x) (.word m :: y)).plain = (cst x (.word m :: y)).base ∨ (cst (.gap :: x) (.word m :: y)).plain = 3 + (cst (.gap :: x) y).plain := by
  rw [cst]; simp only [here_gw]; omega
theorem g4g (x y : List Cell) : (cst (.gap :: x) (.gap :: y)).plain = (cst x (.gap :: y)).base ∨ (cst (.gap :: x) (.gap :: y)).plain = (cst (.gap :: x) y).other := by
  rw [cst]; simp only [here_gg]; omega
theorem g4n (x : List Cell) : (cst (.gap :: x) []).plain = (cst x []).base := by
  rw [cst]; simp only [here_gn]; omega
theorem n0 : (cst [] []).plain = 0 := by rw [cst]; rfl
theorem n2 (y : List Cell) : (cst [] y).other = (cst [] y).plain := by
  rcases y with _ | ⟨_ | _, y⟩ <;> rw [cst] <;> simp only [NOUGHT, here_nw, here_ng]
theorem n4w (m : Letters) (y : List Cell) : (cst [] (.word m :: y)).plain = 3 + (cst [] y).plain := by
  rw [cst]; simp only [here_nw]
theorem n4g (y : List Cell) : (cst [] (.gap :: y)).plain = (cst [] y).other := by
  rw [cst]; simp only [here_ng]; omega

/-! ### cells by place -/
def price (l : Letters) (y : List Cell) (j : Nat) : Int := match y[j]? with
  | some (.word m) => (pairCost l m : Int)
  | _ => 0
theorem price_w {y : List Cell} {j : Nat} {l m : Letters} (h : y[j]? = some (.word m)) : price l y j = (pairCost l m : Int) := by unfold price; rw [h]
theorem drop_at {y : List Cell} {j : Nat} {c : Cell} (h : y[j]? = some c) : y.drop j = c :: y.drop (j + 1) := by
  obtain ⟨hl, e⟩ := List.getElem?_eq_some_iff.mp h
  rw [List.drop_eq_getElem_cons hl, e]
theorem at_cases (y : List Cell) (j : Nat) (h : j < y.length) : y[j]? = some .gap ∨ ∃ m, y[j]? = some (.word m) := by
  have e : y[j]? = some y[j] := List.getElem?_eq_getElem h
  cases q : y[j] with
  | gap => left; rw [e, q]
  | word m => right; exact ⟨m, by rw [e, q]⟩
theorem at_lt {y : List Cell} {j : Nat} {c : Cell} (h : y[j]? = some c) : j < y.length := (List.getElem?_eq_some_iff.mp h).1
theorem drop_end (y : List Cell) : y.drop y.length = [] := List.drop_length
/-! ### rows in numbers -/
open VhC
def okLetter (c : Nat) : Bool := decide (c < 2 ^ 21) || c == LOST
theorem fuel : ∀ (n : Nat) (l : List Nat), l.length ≤ n → cellsOf n l = cellsOf l.length l
  | n, [], _ => by cases n <;> rfl
  | 0, _ :: _, h => by simp at h
  | n + 1, k :: r, h => by
    have h' : r.length ≤ n := by simpa using h
    simp only [List.length_cons, cellsOf]
    rw [fuel n r h', fuel n (r.drop k) (by rw [List.length_drop]; omega), fuel r.length (r.drop k) (by rw [List.length_drop]; omega)]
termination_by n => n
def parse (l : List Nat) : Option (List Cell) := cellsOf l.length l
theorem parse_nil : parse [] = some [] := rfl
theorem parse_cons (k : Nat) (r : List Nat) : parse (k :: r) = if k = GAP then (parse r).map (Cell.gap :: ·)
    else if k ≤ 512 ∧ k ≤ r.length ∧ (r.take k).all okLetter = true then (parse (r.drop k)).map (Cell.word (r.take k) :: ·) else none := by
  unfold parse
  simp only [List.length_cons, cellsOf]
  rw [fuel r.length (r.drop k) (by rw [List.length_drop]; omega)]
  have e : ((r.take k).length = k) = (k ≤ r.length) := by
    rw [List.length_take]
    exact propext ⟨fun h => by omega, fun h => by omega⟩
  have a : ((r.take k).all fun (c : Nat) => decide (c < 2 ^ 21) || c == LOST) = (r.take k).all okLetter := rfl
  simp only [e, a, show LETTERS = 512 from rfl]
/-- where the cell that begins at i ends; -1: none does -/
def cellEnd (l : List Nat) (i : Nat) : Int :=
  let k := l.getD i 0
  if k = GAP then (i : Int) + 1
  else if k ≤ 512 ∧ i + 1 + k ≤ l.length ∧ ((l.drop (i + 1)).take k).all okLetter = true then (i : Int) + 1 + (k : Int) else -1
def refusal (l : List Nat) : Int := match parse l with
  | none => -1
  | some x => if 4096 < x.length then -2 else 0
theorem drop_get {l : List Nat} {i : Nat} (h : i < l.length) : l.drop i = l.getD i 0 :: l.drop (i + 1) := by
  rw [List.drop_eq_getElem_cons h]; simp [List.getD, h]
/-- one cell of the reading -/
theorem parse_at {l : List Nat} {i : Nat} (h : i < l.length) : parse (l.drop i) =
    if l.getD i 0 = GAP then (parse (l.drop (i + 1))).map (Cell.gap :: ·)
    else if l.getD i 0 ≤ 512 ∧ i + 1 + l.getD i 0 ≤ l.length ∧ ((l.drop (i + 1)).take (l.getD i 0)).all okLetter = true then
      (parse (l.drop (i + 1 + l.getD i 0))).map (Cell.word ((l.drop (i + 1)).take (l.getD i 0)) :: ·) else none := by
  rw [drop_get h, parse_cons]
  have e : (l.getD i 0 ≤ (l.drop (i + 1)).length) = (i + 1 + l.getD i 0 ≤ l.length) := by
    rw [List.length_drop]
    exact propext ⟨fun h => by omega, fun h => by omega⟩
  simp only [e, List.drop_drop]
theorem given_eq (l : List Nat) (h : l.length ≤ 1048576) : given l = match parse l with
    | none => .error (no 1)
    | some x => if 4096 < x.length then .error (no 2) else .ok x := by
  unfold given
  rw [if_neg (by unfold NUMBERS; omega)]
  rfl
/-- **what cost is due to answer** -/
theorem cost_eq (x y : List Int) (hx : x.length ≤ 1048576) (hy : y.length ≤ 1048576) : PyWqatbt.cost x y =
    if refusal (x.map Int.toNat) < 0 then [refusal (x.map Int.toNat)] else if refusal (y.map Int.toNat) < 0 then [refusal (y.map Int.toNat)]
    else [(leastCost ((parse (x.map Int.toNat)).getD []) ((parse (y.map Int.toNat)).getD []) : Int)] := by
  have hx' : (x.map Int.toNat).length ≤ 1048576 := by rw [List.length_map]; exact hx
  have hy' : (y.map Int.toNat).length ≤ 1048576 := by rw [List.length_map]; exact hy
  show AlignNeutral.shown (VhC.answer (.cost (x.map Int.toNat) (y.map Int.toNat))) = _
  unfold answer ofRows refusal
  simp only
  rw [given_eq _ hx', given_eq _ hy']
  cases ex : parse (x.map Int.toNat) with
  | none => rfl
  | some u =>
    by_cases hu : 4096 < u.length
    · simp only [hu, if_true]; rfl
    · cases ey : parse (y.map Int.toNat) with
      | none => simp only [hu, if_false]; rfl
      | some v =>
        by_cases hv : 4096 < v.length
        · simp only [hu, hv, if_true, if_false]; rfl
        · simp only [hu, hv, if_false]; rfl
theorem asked_len (x y : List Int) (h : PyWqatbt.cost_asked x y = true) : x.length ≤ 3000 ∧ y.length ≤ 3000 ∧ (∀ z ∈ x, 0 ≤ z) ∧ ∀ z ∈ y, 0 ≤ z := by
  unfold PyWqatbt.cost_asked AlignNeutral.asked at h
  simp only [List.all_cons, List.all_nil, AlignNeutral.asked1, List.map_cons, List.map_nil, List.sum_cons, List.sum_nil, List.length_cons, List.length_nil, Bool.and_eq_true, decide_eq_true_eq, List.all_eq_true] at h
  obtain ⟨⟨⟨⟨⟨⟨h1, h2⟩, _⟩, _⟩, _⟩, h5⟩, _⟩ := h
  exact ⟨by omega, by omega, h1, h2⟩

/-! ### what the program's reading needs -/
theorem cellEnd_spec {l : List Nat} {i : Nat} (h : i < l.length) :
    (cellEnd l i = -1 ∧ parse (l.drop i) = none) ∨
    ∃ (e : Nat) (c : Cell), cellEnd l i = (e : Int) ∧ i < e ∧ e ≤ l.length ∧ parse (l.drop i) = (parse (l.drop e)).map (c :: ·) ∧
      ((l.getD i 0 = GAP ∧ c = .gap) ∨ (l.getD i 0 ≠ GAP ∧ c = .word ((l.drop (i + 1)).take (e - (i + 1))))) := by
  rw [parse_at h]
  unfold cellEnd
  simp only
  by_cases hg : l.getD i 0 = GAP
  · right
    simp only [hg, if_true]
    exact ⟨i + 1, .gap, by omega, by omega, by omega, rfl, .inl ⟨trivial, rfl⟩⟩
  · simp only [hg, if_false]
    by_cases hc : l.getD i 0 ≤ 512 ∧ i + 1 + l.getD i 0 ≤ l.length ∧ ((l.drop (i + 1)).take (l.getD i 0)).all okLetter = true
    · right
      rw [if_pos hc, if_pos hc]
      refine ⟨i + 1 + l.getD i 0, _, by omega, by omega, hc.2.1, rfl, .inr ⟨hg, ?_⟩⟩
      rw [show i + 1 + l.getD i 0 - (i + 1) = l.getD i 0 by omega]
    · left
      rw [if_neg hc, if_neg hc]
      exact ⟨rfl, rfl⟩
theorem pair_len {a b : Letters} (h : a.length ≠ b.length) : pairCost a b = 4 := by
  have h1 : alike a b = false := by
    unfold alike
    have : (a == b) = false := beq_eq_false_iff_ne.mpr fun e => h (by rw [e])
    rw [this]
    rfl
  have h2 : fits a b = false := by
    unfold fits
    have : (a.length == b.length) = false := beq_eq_false_iff_ne.mpr h
    rw [this]
    simp
  unfold pairCost
  rw [h1, h2]
  rfl
theorem pair_alike {a b : Letters} (h : a = b) (hl : LOST ∉ a) : pairCost a b = 0 := by
  have h1 : alike a b = true := by
    unfold alike hasLost
    rw [h] at hl ⊢
    simp [hl]
  unfold pairCost
  rw [if_pos h1]
def okPair (p : Nat × Nat) : Bool := p.1 == p.2 || (p.1 == LOST || p.2 == LOST)
theorem pair_else {a b : Letters} (h : ¬ (a = b ∧ LOST ∉ a)) (hl : a.length = b.length) : pairCost a b = if (a.zip b).all okPair = true then 1 else 4 := by
  have h1 : alike a b = false := by
    unfold alike hasLost
    cases e : (a == b && !a.contains LOST) with
    | false => rfl
    | true =>
      rw [Bool.and_eq_true] at e
      exact absurd ⟨eq_of_beq e.1, by have := e.2; simpa using this⟩ h
  have h2 : fits a b = (a.zip b).all okPair := by
    unfold fits
    rw [h1, hl]
    simp only [Bool.not_false, Bool.true_and, beq_self_eq_true]
    rfl
  unfold pairCost
  rw [h1, h2]
  rfl
/-- what cost is due to answer, of the numbers -/
def due (x y : List Nat) : List Int := if refusal x < 0 then [refusal x] else if refusal y < 0 then [refusal y] else [(leastCost ((parse x).getD []) ((parse y).getD []) : Int)]
theorem cost_due (x y : List Int) (hx : x.length ≤ 1048576) (hy : y.length ≤ 1048576) : PyWqatbt.cost x y = due (x.map Int.toNat) (y.map Int.toNat) := cost_eq x y hx hy
theorem refusal_some {l : List Nat} (h : ¬ refusal l < 0) : ∃ cs, parse l = some cs := by
  unfold refusal at h
  cases e : parse l with
  | none => rw [e] at h; exact absurd (show (-1 : Int) < 0 by decide) h
  | some cs => exact ⟨cs, rfl⟩
/-- a row has no more cells than numbers -/
theorem parse_len : ∀ (n : Nat) (l : List Nat) (cs : List Cell), cellsOf n l = some cs → cs.length ≤ l.length
  | _, [], cs, h => by
    simp only [cellsOf] at h
    cases h
    simp
  | 0, _ :: _, cs, h => by simp [cellsOf] at h
  | n + 1, k :: r, cs, h => by
    simp only [cellsOf] at h
    split at h
    · cases e : cellsOf n r with
      | none => rw [e] at h; cases h
      | some d =>
        rw [e] at h
        cases h
        have := parse_len n r d e
        simp only [List.length_cons]
        omega
    · split at h
      · cases e : cellsOf n (r.drop k) with
        | none => rw [e] at h; cases h
        | some d =>
          rw [e] at h
          cases h
          have := parse_len n _ d e
          rw [List.length_drop] at this
          simp only [List.length_cons]
          omega
      · cases h
theorem okLetter_int (n : Nat) : okLetter n = (decide ((n : Int) < 2097152) || decide ((n : Int) = 16777216)) := by
  have e1 : decide (n < 2 ^ 21) = decide ((n : Int) < 2097152) := decide_eq_decide.mpr (by omega)
  have e2 : (n == LOST) = decide ((n : Int) = 16777216) := by
    unfold LOST
    rw [Bool.beq_eq_decide_eq]
    exact decide_eq_decide.mpr (by omega)
  show (decide (n < 2 ^ 21) || n == LOST) = _
  rw [e1, e2]
end Cm

namespace Cm
open Vh

/-! ### the walk without its table -/
theorem grid_drop (y : List Cell) (c : Cell) (x : List Cell) : (costGrid NOUGHT y (c :: x)).drop 1 = costGrid NOUGHT y x := rfl
theorem rowOf_getD (x : List Cell) : ∀ (y : List Cell) (j : Nat), j ≤ y.length → (rowOf x y).getD j NOUGHT = cst x (y.drop j)
  | [], 0, _ => rfl
  | [], j + 1, h => by simp at h
  | d :: y, 0, _ => rfl
  | d :: y, j + 1, h => by
    have := rowOf_getD x y j (by simpa using h)
    simpa [rowOf] using this
theorem costAt_grid (x y : List Cell) (j : Nat) (h : j ≤ y.length) : costAt (costGrid NOUGHT y x) j = cst x (y.drop j) := by
  unfold costAt
  rw [grid_head]
  exact rowOf_getD x y j h
/-- the rest behind a step -/
def goX (s : Step) (x : List Cell) : List Cell := if takesXOne s = true then x.drop 1 else x
def goY (s : Step) (y : List Cell) : List Cell := if takesYOne s = true then y.drop 1 else y
/-- what a step and the rest come to -/
def viaCost (b : Behind) (x y : List Cell) (s : Step) : Option Nat := (stepCost b x.head? y.head? s).map fun (c : Nat) => c + (cst (goX s x) (goY s y)).at_ (behindStep s)
/-- the options by the costs themselves -/
def opts (b : Behind) (x y : List Cell) : List (Step × Nat) := (List.range 7).filterMap fun (s : Nat) => (viaCost b x y s).map fun (n : Nat) => (s, n)
theorem range7 : List.range 7 = [0, 1, 2, 3, 4, 5, 6] := rfl
theorem opts_grid (b : Behind) (x y : List Cell) (d r bo : Costs) (hd : ∀ c x', x = c :: x' → d = cst x' y) (hr : ∀ e y', y = e :: y' → r = cst x y')
    (hb : ∀ c x' e y', x = c :: x' → y = e :: y' → bo = cst x' y') : options b x.head? y.head? d r bo = opts b x y := by
  unfold options opts viaCost
  rcases x with _ | ⟨c, x⟩
  · rcases y with _ | ⟨e, y⟩
    · cases b <;> rfl
    · have := hr e y rfl
      subst this
      cases e <;> cases b <;> rfl
  · have := hd c x rfl
    subst this
    rcases y with _ | ⟨e, y⟩
    · cases c <;> cases b <;> rfl
    · have := hr e y rfl
      subst this
      have := hb c x e y rfl rfl
      subst this
      cases c <;> cases e <;> cases b <;> rfl
theorem leastOf_le : ∀ (l : List (Step × Nat)) (a : Nat), l.foldl (fun (m : Nat) (p : Step × Nat) => min m p.2) a ≤ a ∧ (∀ p ∈ l, l.foldl (fun (m : Nat) (p : Step × Nat) => min m p.2) a ≤ p.2) ∧
    (l.foldl (fun (m : Nat) (p : Step × Nat) => min m p.2) a = a ∨ ∃ p ∈ l, l.foldl (fun (m : Nat) (p : Step × Nat) => min m p.2) a = p.2)
  | [], a => by simp
  | q :: l, a => by
    obtain ⟨h1, h2, h3⟩ := leastOf_le l (min a q.2)
    simp only [List.foldl_cons]
    refine ⟨by omega, fun p hp => ?_, ?_⟩
    · rcases List.mem_cons.mp hp with e | e
      · subst e; omega
      · exact h2 p e
    · rcases h3 with h | ⟨p, hp, e⟩
      · by_cases hq : a ≤ q.2
        · left; omega
        · right; exact ⟨q, List.mem_cons_self .., by omega⟩
      · right; exact ⟨p, List.mem_cons_of_mem _ hp, e⟩
theorem leastOf_spec {l : List (Step × Nat)} (h : l ≠ []) : (∀ p ∈ l, leastOf l ≤ p.2) ∧ ∃ p ∈ l, leastOf l = p.2 := by
  cases l with
  | nil => exact absurd rfl h
  | cons q l =>
    obtain ⟨h1, h2, h3⟩ := leastOf_le l q.2
    unfold leastOf
    refine ⟨fun p hp => ?_, ?_⟩
    · rcases List.mem_cons.mp hp with e | e
      · subst e; exact h1
      · exact h2 p e
    · rcases h3 with h | ⟨p, hp, e⟩
      · exact ⟨q, List.mem_cons_self .., h⟩
      · exact ⟨p, List.mem_cons_of_mem _ hp, e⟩
/-- the least is the least of the options -/
theorem cst_opts (b : Behind) (x y : List Cell) (h : x ≠ [] ∨ y ≠ []) : (cst x y).at_ b = leastOf (opts b x y) := by
  rcases x with _ | ⟨c, x⟩
  · rcases y with _ | ⟨e, y⟩
    · simp at h
    · rw [cst, ← opts_grid b [] (e :: y) NOUGHT (cst [] y) NOUGHT (by simp) (by simp) (by simp)]
      cases b <;> rfl
  · rcases y with _ | ⟨e, y⟩
    · rw [cst, ← opts_grid b (c :: x) [] (cst x []) NOUGHT NOUGHT (by simp) (by simp) (by simp)]
      cases b <;> rfl
    · rw [cst, ← opts_grid b (c :: x) (e :: y) (cst x (e :: y)) (cst (c :: x) y) (cst x y) (by simp) (by simp) (by intro _ _ _ _ h1 h2; cases h1; cases h2; rfl)]
      cases b <;> rfl
theorem opts_ne (b : Behind) (x y : List Cell) (h : x ≠ [] ∨ y ≠ []) : opts b x y ≠ [] := by
  unfold opts viaCost
  rcases x with _ | ⟨_ | _, x⟩ <;> rcases y with _ | ⟨_ | _, y⟩ <;> cases b <;> first | (simp at h; done) | (intro e; cases e)
/-- is this the first step's choice -/
def isLeast (b : Behind) (x y : List Cell) (s : Step) : Bool := viaCost b x y s == some ((cst x y).at_ b)
/-- the step that's told: the lesser number of those that keep to the least -/
def nxt (b : Behind) (x y : List Cell) : Option Step := (List.range 7).find? (isLeast b x y)
def fstL : Nat → Behind → List Cell → List Cell → List Step
  | 0, _, _, _ => []
  | f + 1, b, x, y => match nxt b x y with
    | none => []
    | some s => s :: fstL f (behindStep s) (goX s x) (goY s y)
theorem find_opts (v : Step → Option Nat) (t : Nat) : ∀ l : List Step, ((l.filterMap fun (s : Nat) => (v s).map fun (n : Nat) => (s, n)).find? fun (p : Step × Nat) => p.2 == t) = (l.find? fun s => v s == some t).map fun s => (s, t)
  | [] => rfl
  | s :: l => by
    have ih := find_opts v t l
    cases e : v s with
    | none =>
      rw [List.filterMap_cons_none (by rw [e]; rfl), ih, List.find?_cons_of_neg (by rw [e]; simp)]
    | some n =>
      rw [List.filterMap_cons_some (b := (s, n)) (by rw [e]; rfl)]
      by_cases hn : n = t
      · subst hn
        rw [List.find?_cons_of_pos (by simp), List.find?_cons_of_pos (by rw [e]; simp)]
        rfl
      · rw [List.find?_cons_of_neg (by simpa using hn), List.find?_cons_of_neg (by rw [e]; simpa using hn), ih]
theorem choose_eq (b : Behind) (x y : List Cell) : ((opts b x y).find? fun (p : Step × Nat) => p.2 == leastOf (opts b x y)) = (nxt b x y).map fun s => (s, (cst x y).at_ b) := by
  by_cases h : x ≠ [] ∨ y ≠ []
  · rw [← cst_opts b x y h]
    exact find_opts _ _ _
  · have hx : x = [] := by
      cases x with
      | nil => rfl
      | cons _ _ => simp at h
    have hy : y = [] := by
      cases y with
      | nil => rfl
      | cons _ _ => simp at h
    subst hx hy
    cases b <;> rfl
theorem walk_eq (y : List Cell) : ∀ (f : Nat) (b : Behind) (x : List Cell) (j : Nat), j ≤ y.length → walk f b x (y.drop j) j (costGrid NOUGHT y x) = fstL f b x (y.drop j)
  | 0, _, _, _, _ => rfl
  | f + 1, b, x, j, hj => by
    have ho : options b x.head? (y.drop j).head? (costAt ((costGrid NOUGHT y x).drop 1) j) (costAt (costGrid NOUGHT y x) (j + 1)) (costAt ((costGrid NOUGHT y x).drop 1) (j + 1)) = opts b x (y.drop j) := by
      refine opts_grid _ _ _ _ _ _ ?_ ?_ ?_
      · intro c x' e
        subst e
        rw [grid_drop, costAt_grid _ _ _ hj]
      · intro e y' he
        have hlt : j < y.length := by
          by_cases q : j < y.length
          · exact q
          · rw [List.drop_eq_nil_of_le (by omega)] at he; cases he
        rw [costAt_grid _ _ _ hlt, ← List.drop_drop (i := 1) (j := j), he]
        rfl
      · intro c x' e y' hx he
        subst hx
        have hlt : j < y.length := by
          by_cases q : j < y.length
          · exact q
          · rw [List.drop_eq_nil_of_le (by omega)] at he; cases he
        rw [grid_drop, costAt_grid _ _ _ hlt, ← List.drop_drop (i := 1) (j := j), he]
        rfl
    simp only [walk, fstL]
    rw [ho, choose_eq]
    cases en : nxt b x (y.drop j) with
    | none => rfl
    | some s =>
      simp only [Option.map_some]
      have hv : viaCost b x (y.drop j) s = some ((cst x (y.drop j)).at_ b) := by
        have := List.find?_some en
        simpa [isLeast] using this
      have hX : takesXOne s = true → (costGrid NOUGHT y x).drop 1 = costGrid NOUGHT y (x.drop 1) := by
        intro ht
        rcases x with _ | ⟨c, x⟩
        · exfalso
          unfold viaCost at hv
          rcases s with _ | _ | _ | _ | _ | _ | _ | s <;> simp_all [takesXOne, stepCost]
        · rfl
      have hY : takesYOne s = true → j < y.length := by
        intro ht
        by_cases q : j < y.length
        · exact q
        · exfalso
          rw [List.drop_eq_nil_of_le (by omega)] at hv
          unfold viaCost at hv
          rcases s with _ | _ | _ | _ | _ | _ | _ | s <;> simp_all [takesYOne, stepCost]
      have gx : (if takesXOne s = true then (costGrid NOUGHT y x).drop 1 else costGrid NOUGHT y x) = costGrid NOUGHT y (goX s x) := by
        unfold goX
        by_cases ht : takesXOne s = true
        · rw [if_pos ht, if_pos ht, hX ht]
        · rw [if_neg ht, if_neg ht]
      rw [gx]
      congr 1
      by_cases ht : takesYOne s = true
      · unfold goY
        simp only [if_pos ht]
        rw [List.drop_drop]
        exact walk_eq y f _ _ (j + 1) (hY ht)
      · unfold goY
        simp only [if_neg ht]
        exact walk_eq y f _ _ j hj
theorem first_eq (x y : List Cell) : firstLeast x y = fstL (x.length + y.length) .plain x y := by
  have := walk_eq y (x.length + y.length) .plain x 0 (Nat.zero_le _)
  simpa [firstLeast] using this

/-- a choice there always is, and it takes a cell -/
theorem nxt_some (b : Behind) (x y : List Cell) (h : x ≠ [] ∨ y ≠ []) : ∃ s, nxt b x y = some s := by
  obtain ⟨_, p, hp, e⟩ := leastOf_spec (opts_ne b x y h)
  have hc := choose_eq b x y
  have : ((opts b x y).find? fun (p : Step × Nat) => p.2 == leastOf (opts b x y)) ≠ none := by
    intro q
    have := List.find?_eq_none.mp q p hp
    simp [e] at this
  rw [hc] at this
  cases en : nxt b x y with
  | none => rw [en] at this; simp at this
  | some s => exact ⟨s, rfl⟩
theorem nxt_nil (b : Behind) : nxt b [] [] = none := by cases b <;> rfl
theorem fstL_nil (f : Nat) (b : Behind) : fstL f b [] [] = [] := by
  cases f with
  | zero => rfl
  | succ f => rw [fstL, nxt_nil]
theorem step_takes {b : Behind} {x y : List Cell} {s : Step} {c : Nat} (h : stepCost b x.head? y.head? s = some c) :
    (goX s x).length + (goY s y).length < x.length + y.length := by
  rcases s with _ | _ | _ | _ | _ | _ | _ | s <;> rcases x with _ | ⟨_ | _, x⟩ <;> rcases y with _ | ⟨_ | _, y⟩ <;> cases b <;> first | (exfalso; simp [stepCost] at h; done) | (clear h; simp [goX, goY, takesXOne, takesYOne]; done) | (clear h; simp [goX, goY, takesXOne, takesYOne]; omega)
/-- fuel enough -/
theorem fstL_fuel : ∀ (f g : Nat) (b : Behind) (x y : List Cell), x.length + y.length ≤ f → x.length + y.length ≤ g → fstL f b x y = fstL g b x y
  | 0, g, b, x, y, hf, _ => by
    have hx : x = [] := List.length_eq_zero_iff.mp (by omega)
    have hy : y = [] := List.length_eq_zero_iff.mp (by omega)
    subst hx hy
    rw [fstL_nil, fstL_nil]
  | f + 1, 0, b, x, y, _, hg => by
    have hx : x = [] := List.length_eq_zero_iff.mp (by omega)
    have hy : y = [] := List.length_eq_zero_iff.mp (by omega)
    subst hx hy
    rw [fstL_nil, fstL_nil]
  | f + 1, g + 1, b, x, y, hf, hg => by
    simp only [fstL]
    cases en : nxt b x y with
    | none => rfl
    | some s =>
      have hv : viaCost b x y s = some ((cst x y).at_ b) := by
        have := List.find?_some en
        simpa [isLeast] using this
      have : ∃ c, stepCost b x.head? y.head? s = some c := by
        unfold viaCost at hv
        cases e : stepCost b x.head? y.head? s with
        | none => rw [e] at hv; cases hv
        | some c => exact ⟨c, rfl⟩
      obtain ⟨c, hc⟩ := this
      have := step_takes hc
      simp only
      rw [fstL_fuel f g _ _ _ (by omega) (by omega)]
/-- **the first of the least**, from a place on -/
def firstFrom (b : Behind) (x y : List Cell) : List Step := fstL (x.length + y.length) b x y
theorem firstFrom_nil (b : Behind) : firstFrom b [] [] = [] := rfl
theorem firstFrom_step {b : Behind} {x y : List Cell} {s : Step} (h : nxt b x y = some s) : firstFrom b x y = s :: firstFrom (behindStep s) (goX s x) (goY s y) := by
  have hne : x.length + y.length ≠ 0 := by
    intro e
    have hx : x = [] := List.length_eq_zero_iff.mp (by omega)
    have hy : y = [] := List.length_eq_zero_iff.mp (by omega)
    subst hx hy
    rw [nxt_nil] at h
    cases h
  have hv : viaCost b x y s = some ((cst x y).at_ b) := by
    have := List.find?_some h
    simpa [isLeast] using this
  have : ∃ c, stepCost b x.head? y.head? s = some c := by
    unfold viaCost at hv
    cases e : stepCost b x.head? y.head? s with
    | none => rw [e] at hv; cases hv
    | some c => exact ⟨c, rfl⟩
  obtain ⟨c, hc⟩ := this
  have := step_takes hc
  unfold firstFrom
  obtain ⟨f, hf⟩ : ∃ f, x.length + y.length = f + 1 := ⟨x.length + y.length - 1, by omega⟩
  rw [hf, fstL, h]
  simp only
  rw [fstL_fuel f _ _ _ _ (by omega) (Nat.le_refl _)]
theorem firstLeast_eq (x y : List Cell) : firstLeast x y = firstFrom .plain x y := first_eq x y
theorem firstFrom_len : ∀ (f : Nat) (b : Behind) (x y : List Cell), (fstL f b x y).length ≤ f
  | 0, _, _, _ => by simp [fstL]
  | f + 1, b, x, y => by
    simp only [fstL]
    cases nxt b x y with
    | none => simp
    | some s =>
      have := firstFrom_len f (behindStep s) (goX s x) (goY s y)
      simp only [List.length_cons]
      omega

/-! ### judged, step by step -/
theorem judged_nil (b : Behind) : judged b [] [] [] = some 0 := by cases b <;> rfl
theorem judged_left (b : Behind) (x y : List Cell) (h : x ≠ [] ∨ y ≠ []) : judged b x y [] = none := by
  rcases x with _ | ⟨_, x⟩ <;> rcases y with _ | ⟨_, y⟩ <;> simp_all [judged]
theorem judged_cons (b : Behind) (x y : List Cell) (s : Step) (r : List Step) : judged b x y (s :: r) = (stepCost b x.head? y.head? s).bind fun c => (judged (behindStep s) (goX s x) (goY s y) r).map fun n => c + n := by
  rcases x with _ | ⟨_, x⟩ <;> rcases y with _ | ⟨_, y⟩ <;> simp [judged, goX, goY]

/-! ### what is due -/
open VhC
/-- of two rows, what's reckoned of their cells -/
def ofDue (x y : List Nat) (f : List Cell → List Cell → List Int) : List Int := if refusal x < 0 then [refusal x] else if refusal y < 0 then [refusal y] else f ((parse x).getD []) ((parse y).getD [])
theorem ofRows_due (x y : List Nat) (hx : x.length ≤ 1048576) (hy : y.length ≤ 1048576) (f : List Cell → List Cell → Answer) : AlignNeutral.shown (ofRows x y f) = ofDue x y fun u v => AlignNeutral.shown (f u v) := by
  unfold ofRows ofDue refusal
  rw [given_eq _ hx, given_eq _ hy]
  cases ex : parse x with
  | none => rfl
  | some u =>
    by_cases hu : 4096 < u.length
    · simp only [hu, if_true]; rfl
    · cases ey : parse y with
      | none => simp only [hu, if_false]; rfl
      | some v =>
        by_cases hv : 4096 < v.length
        · simp only [hu, hv, if_true, if_false]; rfl
        · simp only [hu, hv, if_false]; rfl
def dueSteps (x y : List Nat) : List Int := ofDue x y fun u v => (firstFrom .plain u v).map fun (n : Nat) => (n : Int)
def dueJudge (x y s : List Nat) : List Int := ofDue x y fun u v => match judged .plain u v s with
  | some n => [(n : Int)]
  | none => [-6]
def dueThrough (i j : Nat) (x y : List Nat) : List Int := ofDue x y fun u v => if u.length < i ∨ v.length < j then [-4] else [(leastThrough u v i j : Int)]
def dueMoves (x y s : List Nat) : List Int := ofDue x y fun u v => if (judged .plain u v s).isNone = true then [-6] else (movesTold u v s).flatMap fun (m : Move) => [(m.x : Int), (m.y : Int), (m.n : Int)]
theorem len_nat (x : List Int) : (x.map Int.toNat).length = x.length := List.length_map ..
theorem steps_due (x y : List Int) (hx : x.length ≤ 1048576) (hy : y.length ≤ 1048576) : PyWqatbt.steps x y = dueSteps (x.map Int.toNat) (y.map Int.toNat) := by
  show AlignNeutral.shown (VhC.answer (.steps (x.map Int.toNat) (y.map Int.toNat))) = _
  unfold answer
  simp only
  rw [ofRows_due _ _ (by rw [len_nat]; exact hx) (by rw [len_nat]; exact hy)]
  unfold dueSteps
  congr 1
  funext u v
  rw [firstLeast_eq]
  rfl
theorem judge_due (x y s : List Int) (hx : x.length ≤ 1048576) (hy : y.length ≤ 1048576) : PyWqatbt.judge x y s = dueJudge (x.map Int.toNat) (y.map Int.toNat) (s.map Int.toNat) := by
  show AlignNeutral.shown (VhC.answer (.judge (x.map Int.toNat) (y.map Int.toNat) (s.map Int.toNat))) = _
  unfold answer
  simp only
  rw [ofRows_due _ _ (by rw [len_nat]; exact hx) (by rw [len_nat]; exact hy)]
  unfold dueJudge
  congr 1
  funext u v
  cases judged .plain u v (s.map Int.toNat) <;> rfl
theorem through_due (i j : Int) (x y : List Int) (hx : x.length ≤ 1048576) (hy : y.length ≤ 1048576) : PyWqatbt.through i j x y = dueThrough i.toNat j.toNat (x.map Int.toNat) (y.map Int.toNat) := by
  show AlignNeutral.shown (VhC.answer (.through (x.map Int.toNat) (y.map Int.toNat) i.toNat j.toNat)) = _
  unfold answer
  simp only
  rw [ofRows_due _ _ (by rw [len_nat]; exact hx) (by rw [len_nat]; exact hy)]
  unfold dueThrough
  congr 1
  funext u v
  by_cases h : u.length < i.toNat ∨ v.length < j.toNat
  · rw [if_pos h, if_pos h]; rfl
  · rw [if_neg h, if_neg h]; rfl
theorem map_flat (l : List Move) : (l.flatMap fun (m : Move) => [m.x, m.y, m.n]).map (fun (n : Nat) => (n : Int)) = l.flatMap fun (m : Move) => [(m.x : Int), (m.y : Int), (m.n : Int)] := by
  induction l with
  | nil => rfl
  | cons m l ih => simp only [List.flatMap_cons, List.map_append, ih]; rfl
theorem moves_due (x y s : List Int) (hx : x.length ≤ 1048576) (hy : y.length ≤ 1048576) : PyWqatbt.moves x y s = dueMoves (x.map Int.toNat) (y.map Int.toNat) (s.map Int.toNat) := by
  show AlignNeutral.shown (VhC.answer (.moves (x.map Int.toNat) (y.map Int.toNat) (s.map Int.toNat))) = _
  unfold answer
  simp only
  rw [ofRows_due _ _ (by rw [len_nat]; exact hx) (by rw [len_nat]; exact hy)]
  unfold dueMoves
  congr 1
  funext u v
  by_cases h : (judged .plain u v (s.map Int.toNat)).isNone = true
  · rw [if_pos h, if_pos h]; rfl
  · rw [if_neg h, if_neg h]; exact map_flat _
theorem steps_asked_len (x y : List Int) (h : PyWqatbt.steps_asked x y = true) : x.length + y.length ≤ 3000 ∧ (∀ z ∈ x, 0 ≤ z) ∧ ∀ z ∈ y, 0 ≤ z := by
  unfold PyWqatbt.steps_asked AlignNeutral.asked at h
  simp only [List.all_cons, List.all_nil, AlignNeutral.asked1, List.map_cons, List.map_nil, List.sum_cons, List.sum_nil, List.length_cons, List.length_nil, Bool.and_eq_true, decide_eq_true_eq, List.all_eq_true] at h
  obtain ⟨⟨⟨⟨⟨⟨h1, h2⟩, _⟩, _⟩, _⟩, h5⟩, _⟩ := h
  exact ⟨by omega, h1, h2⟩
theorem judge_asked_len (x y s : List Int) (h : PyWqatbt.judge_asked x y s = true) : x.length + y.length + s.length ≤ 3000 ∧ (∀ z ∈ x, 0 ≤ z) ∧ (∀ z ∈ y, 0 ≤ z) ∧ ∀ z ∈ s, 0 ≤ z := by
  unfold PyWqatbt.judge_asked AlignNeutral.asked at h
  simp only [List.all_cons, List.all_nil, AlignNeutral.asked1, List.map_cons, List.map_nil, List.sum_cons, List.sum_nil, List.length_cons, List.length_nil, Bool.and_eq_true, decide_eq_true_eq, List.all_eq_true] at h
  obtain ⟨⟨⟨⟨⟨⟨⟨h1, h2⟩, h3⟩, _⟩, _⟩, _⟩, h5⟩, _⟩ := h
  exact ⟨by omega, h1, h2, h3⟩
theorem through_asked_len (i j : Int) (x y : List Int) (h : PyWqatbt.through_asked i j x y = true) : x.length + y.length ≤ 3000 ∧ (∀ z ∈ x, 0 ≤ z) ∧ (∀ z ∈ y, 0 ≤ z) ∧ 0 ≤ i ∧ 0 ≤ j := by
  unfold PyWqatbt.through_asked AlignNeutral.asked at h
  simp only [List.all_cons, List.all_nil, AlignNeutral.asked1, List.map_cons, List.map_nil, List.sum_cons, List.sum_nil, List.length_cons, List.length_nil, Bool.and_eq_true, decide_eq_true_eq, List.all_eq_true] at h
  obtain ⟨⟨⟨⟨⟨⟨⟨⟨h1, h2⟩, h3⟩, h4⟩, _⟩, _⟩, _⟩, h5⟩, _⟩ := h
  exact ⟨by omega, h1, h2, h3, h4⟩
theorem moves_asked_len (x y s : List Int) (h : PyWqatbt.moves_asked x y s = true) : x.length + y.length + s.length ≤ 600 ∧ (∀ z ∈ x, 0 ≤ z) ∧ (∀ z ∈ y, 0 ≤ z) ∧ ∀ z ∈ s, 0 ≤ z := by
  unfold PyWqatbt.moves_asked AlignNeutral.asked at h
  simp only [List.all_cons, List.all_nil, AlignNeutral.asked1, List.map_cons, List.map_nil, List.sum_cons, List.sum_nil, List.length_cons, List.length_nil, Bool.and_eq_true, decide_eq_true_eq, List.all_eq_true] at h
  obtain ⟨⟨⟨⟨⟨⟨⟨h1, h2⟩, h3⟩, _⟩, _⟩, _⟩, h5⟩, h6⟩ := h
  simp at h6
  exact ⟨by omega, h1, h2, h3⟩
end Cm

namespace Cm
open Vh
/-! ### places: so many cells taken, the last step -/
def bh : Option Nat → Behind
  | none => .plain
  | some s => behindStep s
def tx (s : Nat) : Nat := if takesXOne s = true then 1 else 0
def ty (s : Nat) : Nat := if takesYOne s = true then 1 else 0
theorem goX_drop (s : Step) (x : List Cell) (i : Nat) : goX s (x.drop i) = x.drop (i + tx s) := by
  unfold goX tx
  by_cases h : takesXOne s = true
  · rw [if_pos h, if_pos h, List.drop_drop]
  · rw [if_neg h, if_neg h]; rfl
theorem goY_drop (s : Step) (y : List Cell) (j : Nat) : goY s (y.drop j) = y.drop (j + ty s) := by
  unfold goY ty
  by_cases h : takesYOne s = true
  · rw [if_pos h, if_pos h, List.drop_drop]
  · rw [if_neg h, if_neg h]; rfl
def IsW (c : Option Cell) : Prop := ∃ l, c = some (.word l)
def IsG (c : Option Cell) : Prop := c = some .gap
theorem beh_other (l : Option Nat) : bh l = .other ↔ l = some 6 ∨ l = some 1 := by
  rcases l with _ | s
  · simp [bh]
  · show behindStep s = _ ↔ _
    unfold behindStep
    by_cases h1 : s = 1 ∨ s = 6
    · rw [if_pos h1]; simp; omega
    · rw [if_neg h1]
      by_cases h2 : s = 2 ∨ s = 5
      · rw [if_pos h2]; simp; omega
      · rw [if_neg h2]; simp; omega
theorem beh_base (l : Option Nat) : bh l = .base ↔ l = some 5 ∨ l = some 2 := by
  rcases l with _ | s
  · simp [bh]
  · show behindStep s = _ ↔ _
    unfold behindStep
    by_cases h1 : s = 1 ∨ s = 6
    · rw [if_pos h1]; simp; omega
    · rw [if_neg h1]
      by_cases h2 : s = 2 ∨ s = 5
      · rw [if_pos h2]; simp; omega
      · rw [if_neg h2]; simp; omega
theorem may0 (b : Behind) (x y : Option Cell) : (stepCost b x y 0).isSome = true ↔ IsW x ∧ IsW y := by
  rcases x with _ | (_ | _) <;> rcases y with _ | (_ | _) <;> cases b <;> simp [stepCost, IsW]
theorem may1 (b : Behind) (x y : Option Cell) : (stepCost b x y 1).isSome = true ↔ IsW x ∧ b = .other := by
  rcases x with _ | (_ | _) <;> cases b <;> simp [stepCost, IsW]
theorem may2 (b : Behind) (x y : Option Cell) : (stepCost b x y 2).isSome = true ↔ IsW y ∧ b = .base := by
  rcases y with _ | (_ | _) <;> cases b <;> simp [stepCost, IsW]
theorem may3 (b : Behind) (x y : Option Cell) : (stepCost b x y 3).isSome = true ↔ IsW x := by
  rcases x with _ | (_ | _) <;> simp [stepCost, IsW]
theorem may4 (b : Behind) (x y : Option Cell) : (stepCost b x y 4).isSome = true ↔ IsW y := by
  rcases y with _ | (_ | _) <;> simp [stepCost, IsW]
theorem may5 (b : Behind) (x y : Option Cell) : (stepCost b x y 5).isSome = true ↔ IsG x := by
  rcases x with _ | (_ | _) <;> simp [stepCost, IsG]
theorem may6 (b : Behind) (x y : Option Cell) : (stepCost b x y 6).isSome = true ↔ IsG y := by
  rcases y with _ | (_ | _) <;> simp [stepCost, IsG]
theorem may7 (b : Behind) (x y : Option Cell) (s : Nat) (h : 7 ≤ s) : stepCost b x y s = none := by
  obtain ⟨t, rfl⟩ : ∃ t, s = t + 7 := ⟨s - 7, by omega⟩
  rcases x with _ | (_ | _) <;> rcases y with _ | (_ | _) <;> cases b <;> rfl
theorem cost0 {b : Behind} {x y : Option Cell} {c : Nat} (h : stepCost b x y 0 = some c) : ∃ l m, x = some (.word l) ∧ y = some (.word m) ∧ c = pairCost l m := by
  rcases x with _ | (l | _) <;> rcases y with _ | (m | _) <;> simp [stepCost] at h
  exact ⟨l, m, rfl, rfl, h.symm⟩
theorem cost34 {b : Behind} {x y : Option Cell} {s c : Nat} (h : stepCost b x y s = some c) (hs : s = 3 ∨ s = 4) : c = 3 := by
  rcases hs with rfl | rfl <;> rcases x with _ | (_ | _) <;> rcases y with _ | (_ | _) <;> simp [stepCost] at h <;> omega
theorem cost_lt {b : Behind} {x y : Option Cell} {s c : Nat} (h : stepCost b x y s = some c) : s < 7 := by
  by_cases q : s < 7
  · exact q
  · rw [may7 b x y s (by omega)] at h; cases h
theorem costE {b : Behind} {x y : Option Cell} {s c : Nat} (h : stepCost b x y s = some c) (h0 : s ≠ 0) (h3 : s ≠ 3) (h4 : s ≠ 4) : c = 0 := by
  have := cost_lt h
  rcases s with _ | _ | _ | _ | _ | _ | _ | s <;> first | omega | (rcases x with _ | (_ | _) <;> rcases y with _ | (_ | _) <;> cases b <;> simp [stepCost] at h <;> omega)
theorem cost_tx {b : Behind} {x y : List Cell} {i j s c : Nat} (h : stepCost b x[i]? y[j]? s = some c) (hi : i ≤ x.length) : i + tx s ≤ x.length := by
  unfold tx
  by_cases ht : takesXOne s = true
  · rw [if_pos ht]
    by_cases q : i < x.length
    · omega
    · exfalso
      rw [show x[i]? = none from List.getElem?_eq_none (by omega)] at h
      have := cost_lt h
      rcases s with _ | _ | _ | _ | _ | _ | _ | s <;> simp_all [takesXOne, stepCost] <;> omega
  · rw [if_neg ht]; omega
theorem cost_ty {b : Behind} {x y : List Cell} {i j s c : Nat} (h : stepCost b x[i]? y[j]? s = some c) (hj : j ≤ y.length) : j + ty s ≤ y.length := by
  unfold ty
  by_cases ht : takesYOne s = true
  · rw [if_pos ht]
    by_cases q : j < y.length
    · omega
    · exfalso
      rw [show y[j]? = none from List.getElem?_eq_none (by omega)] at h
      have := cost_lt h
      rcases s with _ | _ | _ | _ | _ | _ | _ | s <;> simp_all [takesYOne, stepCost] <;> omega
  · rw [if_neg ht]; omega
theorem head_drop (x : List Cell) (i : Nat) : (x.drop i).head? = x[i]? := by rw [List.head?_drop]
/-- how the judged goes on -/
theorem judged_step {l : Option Nat} {x y : List Cell} {i j k s : Nat} {st : List Nat} (hs : st[k]? = some s) : judged (bh l) (x.drop i) (y.drop j) (st.drop k) =
    (stepCost (bh l) x[i]? y[j]? s).bind fun c => (judged (bh (some s)) (x.drop (i + tx s)) (y.drop (j + ty s)) (st.drop (k + 1))).map fun n => c + n := by
  have hk : k < st.length := (List.getElem?_eq_some_iff.mp hs).1
  have e : st.drop k = s :: st.drop (k + 1) := by
    rw [List.drop_eq_getElem_cons hk]
    congr 1
    exact (List.getElem?_eq_some_iff.mp hs).2
  rw [e, judged_cons, head_drop, head_drop, goX_drop, goY_drop]
  rfl
theorem judged_end {l : Option Nat} {x y : List Cell} {i j : Nat} (hi : i ≤ x.length) (hj : j ≤ y.length) : judged (bh l) (x.drop i) (y.drop j) [] = if i = x.length ∧ j = y.length then some 0 else none := by
  by_cases h : i = x.length ∧ j = y.length
  · rw [if_pos h, h.1, h.2, List.drop_length, List.drop_length, judged_nil]
  · rw [if_neg h]
    refine judged_left _ _ _ ?_
    by_cases q : i = x.length
    · right
      intro z
      rw [List.drop_eq_nil_iff] at z
      omega
    · left
      intro z
      rw [List.drop_eq_nil_iff] at z
      omega
def dueN : Option Nat → Int
  | some n => (n : Int)
  | none => -6
end Cm

namespace Cm
open Vh
/-! ### the runs, cell by cell: the number of the step that takes a cell, and of its run's first step -/
abbrev E := Option (Nat × Nat)
def ck (kind : Nat) (tk : Nat → Bool) : Nat → Option Nat → List Nat → List E
  | _, _, [] => []
  | k, pr, s :: r => if s = kind then some (k, pr.getD k) :: ck kind tk (k + 1) (some (pr.getD k)) r
    else if tk s = true then none :: ck kind tk (k + 1) none r else ck kind tk (k + 1) none r
def one (kind : Nat) (tk : Nat → Bool) (k : Nat) (pr : Option Nat) (s : Nat) : List E := if s = kind then [some (k, pr.getD k)] else if tk s = true then [none] else []
def prA (kind : Nat) : Nat → Option Nat → List Nat → Option Nat
  | _, pr, [] => pr
  | k, pr, s :: r => prA kind (k + 1) (if s = kind then some (pr.getD k) else none) r
theorem ck_snoc (kind : Nat) (tk : Nat → Bool) (st : Nat) : ∀ (l : List Nat) (k : Nat) (pr : Option Nat), ck kind tk k pr (l ++ [st]) = ck kind tk k pr l ++ one kind tk (k + l.length) (prA kind k pr l) st
  | [], k, pr => by
    simp only [List.nil_append, ck, prA, List.length_nil, Nat.add_zero, one]
  | s :: r, k, pr => by
    simp only [List.cons_append, ck, prA, List.length_cons]
    by_cases h : s = kind
    · simp only [h, if_true]
      rw [ck_snoc kind tk st r, List.cons_append, show k + 1 + r.length = k + (r.length + 1) by omega]
    · simp only [h, if_false]
      by_cases h2 : tk s = true
      · simp only [h2, if_true]
        rw [ck_snoc kind tk st r, List.cons_append, show k + 1 + r.length = k + (r.length + 1) by omega]
      · simp only [h2, if_false, Bool.false_eq_true]
        rw [ck_snoc kind tk st r, show k + 1 + r.length = k + (r.length + 1) by omega]
theorem prA_snoc (kind : Nat) (st : Nat) : ∀ (l : List Nat) (k : Nat) (pr : Option Nat), prA kind k pr (l ++ [st]) = if st = kind then some ((prA kind k pr l).getD (k + l.length)) else none
  | [], k, pr => by simp [prA]
  | s :: r, k, pr => by
    simp only [List.cons_append, prA, List.length_cons]
    rw [prA_snoc kind st r, show k + 1 + r.length = k + (r.length + 1) by omega]
theorem ck_mem (kind : Nat) (tk : Nat → Bool) : ∀ (l : List Nat) (k : Nat) (pr : Option Nat) (d : Nat) (c : Nat × Nat), (ck kind tk k pr l)[d]? = some (some c) → k + d ≤ c.1 ∧ (k ≤ c.2 ∨ pr = some c.2)
  | [], k, pr, d, c, h => by simp [ck] at h
  | s :: r, k, pr, d, c, h => by
    simp only [ck] at h
    by_cases hk : s = kind
    · simp only [hk, if_true] at h
      cases d with
      | zero =>
        simp at h
        subst h
        refine ⟨Nat.le_refl _, ?_⟩
        cases pr with
        | none => left; exact Nat.le_refl _
        | some p => right; rfl
      | succ d =>
        rw [List.getElem?_cons_succ] at h
        obtain ⟨h1, h2⟩ := ck_mem kind tk r (k + 1) _ d c h
        refine ⟨by omega, ?_⟩
        rcases h2 with h2 | h2
        · left; omega
        · cases pr with
          | none => left; simp at h2; omega
          | some p => right; simpa using h2
    · simp only [hk, if_false] at h
      by_cases h3 : tk s = true
      · simp only [h3, if_true] at h
        cases d with
        | zero => simp at h
        | succ d =>
          rw [List.getElem?_cons_succ] at h
          obtain ⟨h1, h2⟩ := ck_mem kind tk r (k + 1) _ d c h
          refine ⟨by omega, ?_⟩
          rcases h2 with h2 | h2
          · left; omega
          · cases h2
      · simp only [h3, if_false, Bool.false_eq_true] at h
        obtain ⟨h1, h2⟩ := ck_mem kind tk r (k + 1) _ d c h
        refine ⟨by omega, ?_⟩
        rcases h2 with h2 | h2
        · left; omega
        · cases h2
/-- what the runs of a row keep to -/
structure RunsOk (x : List Cell) (L : List E) : Prop where
  len : L.length = x.length
  far : ∀ (i d : Nat) (a c : Nat × Nat), L[i]? = some (some a) → L[i + d]? = some (some c) → a.1 + d ≤ c.1
  next : ∀ (i : Nat) (a c : Nat × Nat), L[i]? = some (some a) → L[i + 1]? = some (some c) → (c.1 = a.1 + 1 ↔ c.2 = a.2)
  word : ∀ (i : Nat) (a : Nat × Nat), L[i]? = some (some a) → ∃ l, x[i]? = some (.word l)
theorem ck_far (kind : Nat) (tk : Nat → Bool) : ∀ (l : List Nat) (k : Nat) (pr : Option Nat) (i d : Nat) (a c : Nat × Nat), (ck kind tk k pr l)[i]? = some (some a) → (ck kind tk k pr l)[i + d]? = some (some c) → a.1 + d ≤ c.1
  | [], k, pr, i, d, a, c, h, _ => by simp [ck] at h
  | s :: r, k, pr, i, d, a, c, h, g => by
    simp only [ck] at h g
    by_cases hk : s = kind
    · simp only [hk, if_true] at h g
      cases i with
      | zero =>
        simp at h
        subst h
        cases d with
        | zero => simp at g; subst g; simp
        | succ d =>
          rw [show 0 + (d + 1) = d + 1 by omega, List.getElem?_cons_succ] at g
          have := (ck_mem kind tk r _ _ _ _ g).1
          show k + (d + 1) ≤ c.1
          omega
      | succ i =>
        rw [List.getElem?_cons_succ] at h
        rw [show i + 1 + d = (i + d) + 1 by omega, List.getElem?_cons_succ] at g
        exact ck_far kind tk r _ _ i d a c h g
    · simp only [hk, if_false] at h g
      by_cases h3 : tk s = true
      · simp only [h3, if_true] at h g
        cases i with
        | zero => simp at h
        | succ i =>
          rw [List.getElem?_cons_succ] at h
          rw [show i + 1 + d = (i + d) + 1 by omega, List.getElem?_cons_succ] at g
          exact ck_far kind tk r _ _ i d a c h g
      · simp only [h3, if_false, Bool.false_eq_true] at h g
        exact ck_far kind tk r _ _ i d a c h g
theorem ck_next (kind : Nat) (tk : Nat → Bool) : ∀ (l : List Nat) (k : Nat) (pr : Option Nat) (hp : ∀ p, pr = some p → p < k) (i : Nat) (a c : Nat × Nat), (ck kind tk k pr l)[i]? = some (some a) → (ck kind tk k pr l)[i + 1]? = some (some c) → (c.1 = a.1 + 1 ↔ c.2 = a.2)
  | [], k, pr, hp, i, a, c, h, _ => by simp [ck] at h
  | s :: r, k, pr, hp, i, a, c, h, g => by
    simp only [ck] at h g
    by_cases hk : s = kind
    · simp only [hk, if_true] at h g
      have hlt : pr.getD k ≤ k := by
        cases pr with
        | none => exact Nat.le_refl _
        | some p => exact Nat.le_of_lt (hp p rfl)
      cases i with
      | zero =>
        simp at h
        subst h
        rw [show 0 + 1 = 0 + 1 from rfl, List.getElem?_cons_succ] at g
        cases r with
        | nil => simp [ck] at g
        | cons s' r =>
          simp only [ck] at g
          by_cases hk' : s' = kind
          · simp only [hk', if_true] at g
            simp at g
            subst g
            simp
          · simp only [hk', if_false] at g
            by_cases h3 : tk s' = true
            · simp only [h3, if_true] at g
              simp at g
            · simp only [h3, if_false, Bool.false_eq_true] at g
              obtain ⟨g1, g2⟩ := ck_mem kind tk r _ _ _ _ g
              have g2 : k + 1 + 1 ≤ c.2 := by
                rcases g2 with g2 | g2
                · exact g2
                · cases g2
              constructor
              · intro z
                simp only at z
                omega
              · intro z
                simp only at z
                omega
      | succ i =>
        rw [List.getElem?_cons_succ] at h g
        exact ck_next kind tk r _ _ (fun p e => by cases e; omega) i a c h g
    · simp only [hk, if_false] at h g
      by_cases h3 : tk s = true
      · simp only [h3, if_true] at h g
        cases i with
        | zero => simp at h
        | succ i =>
          rw [List.getElem?_cons_succ] at h g
          exact ck_next kind tk r _ _ (fun p e => by cases e) i a c h g
      · simp only [h3, if_false, Bool.false_eq_true] at h g
        exact ck_next kind tk r _ _ (fun p e => by cases e) i a c h g
/-! ### of a collation -/
def LX (s : List Nat) : List E := ck 3 takesXOne 0 none s
def LY (s : List Nat) : List E := ck 4 takesYOne 0 none s
theorem judged_some {b : Behind} {x y : List Cell} {s : Nat} {r : List Nat} (h : (judged b x y (s :: r)).isNone = false) : (∃ c, stepCost b x.head? y.head? s = some c) ∧ (judged (behindStep s) (goX s x) (goY s y) r).isNone = false := by
  rw [judged_cons] at h
  cases e : stepCost b x.head? y.head? s with
  | none => rw [e] at h; simp at h
  | some c =>
    refine ⟨⟨c, rfl⟩, ?_⟩
    rw [e] at h
    simp only [Option.bind_some] at h
    cases e2 : judged (behindStep s) (goX s x) (goY s y) r with
    | none => rw [e2] at h; simp at h
    | some n => rfl
theorem judged_fin {b : Behind} {x y : List Cell} (h : (judged b x y []).isNone = false) : x = [] ∧ y = [] := by
  by_cases hx : x = []
  · by_cases hy : y = []
    · exact ⟨hx, hy⟩
    · rw [judged_left b x y (.inr hy)] at h; simp at h
  · rw [judged_left b x y (.inl hx)] at h; simp at h
theorem step_x {b : Behind} {x y : List Cell} {s c : Nat} (h : stepCost b x.head? y.head? s = some c) : s < 7 ∧ (takesXOne s = true → ∃ c x', x = c :: x') ∧ (takesYOne s = true → ∃ c y', y = c :: y') ∧ (s = 3 → ∃ l x', x = .word l :: x') ∧ (s = 4 → ∃ l y', y = .word l :: y') := by
  rcases s with _ | _ | _ | _ | _ | _ | _ | s <;> rcases x with _ | ⟨_ | _, x⟩ <;> rcases y with _ | ⟨_ | _, y⟩ <;> cases b <;> first | (exfalso; simp [stepCost] at h; done) | (clear h; simp [takesXOne, takesYOne])
theorem judged_lt : ∀ (s : List Nat) (b : Behind) (x y : List Cell), (judged b x y s).isNone = false → ∀ t ∈ s, t < 7
  | [], b, x, y, h, t, ht => by simp at ht
  | s :: r, b, x, y, h, t, ht => by
    obtain ⟨⟨c, hc⟩, h2⟩ := judged_some h
    rcases List.mem_cons.mp ht with e | e
    · rw [e]; exact (step_x hc).1
    · exact judged_lt r _ _ _ h2 t e
theorem ckX : ∀ (s : List Nat) (b : Behind) (x y : List Cell) (k : Nat) (pr : Option Nat), (judged b x y s).isNone = false → (ck 3 takesXOne k pr s).length = x.length ∧ ∀ (i : Nat) (a : Nat × Nat), (ck 3 takesXOne k pr s)[i]? = some (some a) → ∃ l, x[i]? = some (.word l)
  | [], b, x, y, k, pr, h => by
    obtain ⟨rfl, rfl⟩ := judged_fin h
    exact ⟨rfl, fun i a e => by simp [ck] at e⟩
  | s :: r, b, x, y, k, pr, h => by
    obtain ⟨⟨c, hc⟩, h2⟩ := judged_some h
    obtain ⟨_, hx, _, h3, _⟩ := step_x hc
    simp only [ck]
    by_cases hk : s = 3
    · subst hk
      obtain ⟨l, x', rfl⟩ := h3 rfl
      obtain ⟨q1, q2⟩ := ckX r _ _ _ (k + 1) (some (pr.getD k)) h2
      have eg : goX 3 (.word l :: x') = x' := rfl
      rw [eg] at q1 q2
      simp only [if_true]
      refine ⟨by simp [q1], fun i a e => ?_⟩
      cases i with
      | zero => exact ⟨l, rfl⟩
      | succ i =>
        rw [List.getElem?_cons_succ] at e
        exact q2 i a e
    · simp only [hk, if_false]
      by_cases ht : takesXOne s = true
      · obtain ⟨d, x', rfl⟩ := hx ht
        obtain ⟨q1, q2⟩ := ckX r _ _ _ (k + 1) none h2
        have eg : goX s (d :: x') = x' := by unfold goX; rw [if_pos ht]; rfl
        rw [eg] at q1 q2
        simp only [ht, if_true]
        refine ⟨by simp [q1], fun i a e => ?_⟩
        cases i with
        | zero => simp at e
        | succ i =>
          rw [List.getElem?_cons_succ] at e
          exact q2 i a e
      · obtain ⟨q1, q2⟩ := ckX r _ _ _ (k + 1) none h2
        have eg : goX s x = x := by unfold goX; rw [if_neg ht]
        rw [eg] at q1 q2
        simp only [ht, if_false, Bool.false_eq_true]
        exact ⟨q1, q2⟩
theorem ckY : ∀ (s : List Nat) (b : Behind) (x y : List Cell) (k : Nat) (pr : Option Nat), (judged b x y s).isNone = false → (ck 4 takesYOne k pr s).length = y.length ∧ ∀ (i : Nat) (a : Nat × Nat), (ck 4 takesYOne k pr s)[i]? = some (some a) → ∃ l, y[i]? = some (.word l)
  | [], b, x, y, k, pr, h => by
    obtain ⟨rfl, rfl⟩ := judged_fin h
    exact ⟨rfl, fun i a e => by simp [ck] at e⟩
  | s :: r, b, x, y, k, pr, h => by
    obtain ⟨⟨c, hc⟩, h2⟩ := judged_some h
    obtain ⟨_, _, hx, _, h3⟩ := step_x hc
    simp only [ck]
    by_cases hk : s = 4
    · subst hk
      obtain ⟨l, x', rfl⟩ := h3 rfl
      obtain ⟨q1, q2⟩ := ckY r _ _ _ (k + 1) (some (pr.getD k)) h2
      have eg : goY 4 (.word l :: x') = x' := rfl
      rw [eg] at q1 q2
      simp only [if_true]
      refine ⟨by simp [q1], fun i a e => ?_⟩
      cases i with
      | zero => exact ⟨l, rfl⟩
      | succ i =>
        rw [List.getElem?_cons_succ] at e
        exact q2 i a e
    · simp only [hk, if_false]
      by_cases ht : takesYOne s = true
      · obtain ⟨d, x', rfl⟩ := hx ht
        obtain ⟨q1, q2⟩ := ckY r _ _ _ (k + 1) none h2
        have eg : goY s (d :: x') = x' := by unfold goY; rw [if_pos ht]; rfl
        rw [eg] at q1 q2
        simp only [ht, if_true]
        refine ⟨by simp [q1], fun i a e => ?_⟩
        cases i with
        | zero => simp at e
        | succ i =>
          rw [List.getElem?_cons_succ] at e
          exact q2 i a e
      · obtain ⟨q1, q2⟩ := ckY r _ _ _ (k + 1) none h2
        have eg : goY s y = y := by unfold goY; rw [if_neg ht]
        rw [eg] at q1 q2
        simp only [ht, if_false, Bool.false_eq_true]
        exact ⟨q1, q2⟩
theorem runs_x {x y : List Cell} {s : List Nat} (h : (judged .plain x y s).isNone = false) : RunsOk x (LX s) :=
  ⟨(ckX s _ x y 0 none h).1, ck_far 3 _ s 0 none, ck_next 3 _ s 0 none (fun p e => by cases e), (ckX s _ x y 0 none h).2⟩
theorem runs_y {x y : List Cell} {s : List Nat} (h : (judged .plain x y s).isNone = false) : RunsOk y (LY s) :=
  ⟨(ckY s _ x y 0 none h).1, ck_far 4 _ s 0 none, ck_next 4 _ s 0 none (fun p e => by cases e), (ckY s _ x y 0 none h).2⟩
/-! ### words that may still move, from the cells -/
def wl : List E → Nat → Words
  | [], _ => []
  | none :: r, i => wl r (i + 1)
  | some a :: r, i => (a.1, i) :: wl r (i + 1)
theorem spots_x : ∀ (s : List Nat) (k i j : Nat) (pr : Option Nat), ((spots k i j s).filter fun (p : Step × Nat × Nat × Nat) => p.1 == 3).map (fun (p : Step × Nat × Nat × Nat) => (p.2.1, p.2.2.1)) = wl (ck 3 takesXOne k pr s) i
  | [], k, i, j, pr => rfl
  | s :: r, k, i, j, pr => by
    simp only [spots, ck]
    by_cases hk : s = 3
    · subst hk
      rw [List.filter_cons_of_pos (by rfl), List.map_cons, spots_x r _ _ _ (some (pr.getD k))]
      rfl
    · rw [List.filter_cons_of_neg (by simpa using hk)]
      simp only [hk, if_false]
      rw [spots_x r _ _ _ none]
      by_cases ht : takesXOne s = true
      · simp only [ht, if_true, wl]
      · simp only [ht, if_false, Bool.false_eq_true]
theorem spots_y : ∀ (s : List Nat) (k i j : Nat) (pr : Option Nat), ((spots k i j s).filter fun (p : Step × Nat × Nat × Nat) => p.1 == 4).map (fun (p : Step × Nat × Nat × Nat) => (p.2.1, p.2.2.2)) = wl (ck 4 takesYOne k pr s) j
  | [], k, i, j, pr => rfl
  | s :: r, k, i, j, pr => by
    simp only [spots, ck]
    by_cases hk : s = 4
    · subst hk
      rw [List.filter_cons_of_pos (by rfl), List.map_cons, spots_y r _ _ _ (some (pr.getD k))]
      rfl
    · rw [List.filter_cons_of_neg (by simpa using hk)]
      simp only [hk, if_false]
      rw [spots_y r _ _ _ none]
      by_cases ht : takesYOne s = true
      · simp only [ht, if_true, wl]
      · simp only [ht, if_false, Bool.false_eq_true]
theorem told_eq (x y : List Cell) (s : List Nat) : movesTold x y s = movesFrom x y (s.length + 1) (wl (LX s) 0) (wl (LY s) 0) := by
  unfold movesTold
  simp only
  rw [spots_x s 0 0 0 none, spots_y s 0 0 0 none]
  rfl
end Cm

namespace Cm
open Vh
/-! ### how many words together, cell by cell -/
def goR (a : Nat × Nat) : List E → Bool
  | some c :: _ => c.2 == a.2
  | _ => false
def cnt (x y : List Cell) : List E → List E → Nat → Nat → Nat
  | some a :: p, some b :: q, i, j => if alikeAt x y i j = false then 0 else 1 + (if goR a p = true ∧ goR b q = true then cnt x y p q (i + 1) (j + 1) else 0)
  | _, _, _, _ => 0
theorem cnt_nil (x y : List Cell) (q : List E) (i j : Nat) : cnt x y [] q i j = 0 := by simp [cnt]
theorem cnt_none (x y : List Cell) (p q : List E) (i j : Nat) : cnt x y (none :: p) q i j = 0 := by simp [cnt]
theorem cnt_nilR (x y : List Cell) (p : List E) (i j : Nat) : cnt x y p [] i j = 0 := by
  rcases p with _ | ⟨_ | _, p⟩ <;> simp [cnt]
theorem cnt_noneR (x y : List Cell) (p q : List E) (i j : Nat) : cnt x y p (none :: q) i j = 0 := by
  rcases p with _ | ⟨_ | _, p⟩ <;> simp [cnt]
/-- a list whose cells keep to order, from a place on -/
structure Inc (L : List E) : Prop where
  far : ∀ (i d : Nat) (a c : Nat × Nat), L[i]? = some (some a) → L[i + d]? = some (some c) → a.1 + d ≤ c.1
  next : ∀ (i : Nat) (a c : Nat × Nat), L[i]? = some (some a) → L[i + 1]? = some (some c) → (c.1 = a.1 + 1 ↔ c.2 = a.2)
theorem Inc.tail {e : E} {L : List E} (h : Inc (e :: L)) : Inc L :=
  ⟨fun i d a c h1 h2 => h.far (i + 1) d a c (by simpa using h1) (by rw [show i + 1 + d = (i + d) + 1 by omega, List.getElem?_cons_succ]; exact h2),
   fun i a c h1 h2 => h.next (i + 1) a c (by simpa using h1) (by rw [List.getElem?_cons_succ]; exact h2)⟩
theorem Inc.drop {L : List E} (h : Inc L) (k : Nat) : Inc (L.drop k) :=
  ⟨fun i d a c h1 h2 => h.far (k + i) d a c (by rw [← List.getElem?_drop]; exact h1) (by rw [show k + i + d = k + (i + d) by omega, ← List.getElem?_drop]; exact h2),
   fun i a c h1 h2 => h.next (k + i) a c (by rw [← List.getElem?_drop]; exact h1) (by rw [show k + i + 1 = k + (i + 1) by omega, ← List.getElem?_drop]; exact h2)⟩
theorem wl_head (a : Nat × Nat) : ∀ (p : List E) (i d : Nat), (∀ (e : Nat) (c : Nat × Nat), p[e]? = some (some c) → a.1 + d + e ≤ c.1) → ∀ (c : Nat × Nat) (r : Words), wl p i = c :: r → a.1 + d ≤ c.1
  | [], i, d, h, c, r, e => by cases e
  | none :: p, i, d, h, c, r, e => by
    have := wl_head a p (i + 1) (d + 1) (fun e' c' h' => by have := h (e' + 1) c' (by simpa using h'); omega) c r e
    omega
  | some b :: p, i, d, h, c, r, e => by
    have e : (b.1, i) :: wl p (i + 1) = c :: r := e
    have := (List.cons.inj e).1
    subst this
    have := h 0 b rfl
    show a.1 + d ≤ b.1
    omega
/-- whether the next word follows by the next step -/
def goW (a : Nat × Nat) (w : Words) : Bool := match w with
  | c :: _ => c.1 == a.1 + 1
  | [] => false
theorem goW_eq {a : Nat × Nat} {p : List E} {i : Nat} (h : Inc (some a :: p)) : goW a (wl p i) = goR a p := by
  rcases p with _ | ⟨_ | c, p⟩
  · rfl
  · have : ∀ (c : Nat × Nat) (r : Words), wl (none :: p) i = c :: r → a.1 + 2 ≤ c.1 := fun c r e => wl_head a p (i + 1) 2 (fun e' c' h' => by
      have := h.far 0 (e' + 2) a c' rfl (by rw [show 0 + (e' + 2) = e' + 1 + 1 by omega]; simpa using h')
      omega) c r e
    cases e : wl (none :: p) i with
    | nil => rfl
    | cons c r =>
      have := this c r e
      show (c.1 == a.1 + 1) = false
      exact beq_eq_false_iff_ne.mpr (by omega)
  · show (c.1 == a.1 + 1) = (c.2 == a.2)
    have := h.next 0 a c rfl rfl
    by_cases z : c.2 = a.2
    · rw [beq_iff_eq.mpr z, beq_iff_eq.mpr (this.mpr z)]
    · rw [beq_eq_false_iff_ne.mpr z, beq_eq_false_iff_ne.mpr fun y => z (this.mp y)]
theorem together_cons (x y : List Cell) (a b : Nat × Nat) (p q : Words) : together x y (a :: p) (b :: q) = if alikeAt x y a.2 b.2 = false then 0 else 1 + (if goW a p = true ∧ goW b q = true then together x y p q else 0) := by
  cases p with
  | nil => simp [together, goW]
  | cons c p =>
    cases q with
    | nil => simp [together, goW]
    | cons d q =>
      rw [together]
      simp only [goW, beq_iff_eq]
theorem together_eq (x y : List Cell) : ∀ (p q : List E) (i j : Nat) (a b : Nat × Nat), Inc (some a :: p) → Inc (some b :: q) → together x y (wl (some a :: p) i) (wl (some b :: q) j) = cnt x y (some a :: p) (some b :: q) i j
  | p, q, i, j, a, b, hp, hq => by
    show together x y ((a.1, i) :: wl p (i + 1)) ((b.1, j) :: wl q (j + 1)) = _
    rw [together_cons, cnt]
    have e1 : goW (a.1, i) (wl p (i + 1)) = goR a p := (show goW (a.1, i) (wl p (i + 1)) = goW a (wl p (i + 1)) from rfl).trans (goW_eq hp)
    have e2 : goW (b.1, j) (wl q (j + 1)) = goR b q := (show goW (b.1, j) (wl q (j + 1)) = goW b (wl q (j + 1)) from rfl).trans (goW_eq hq)
    rw [e1, e2]
    by_cases h : alikeAt x y i j = false
    · simp only [h, if_true]
    · simp only [h]
      by_cases g : goR a p = true ∧ goR b q = true
      · simp only [g, and_self, if_true]
        match p, q, g with
        | some c :: p', some d :: q', _ => rw [together_eq x y p' q' (i + 1) (j + 1) c d hp.tail hq.tail]
        | [], _, g => exact absurd g.1 (by simp [goR])
        | none :: _, _, g => exact absurd g.1 (by simp [goR])
        | some _ :: _, [], g => exact absurd g.2 (by simp [goR])
        | some _ :: _, none :: _, g => exact absurd g.2 (by simp [goR])
      · simp only [g, if_false]
termination_by p => p.length
/-! ### the next move told, by its properties -/
def lexlt (i j i' j' : Nat) : Prop := i < i' ∨ (i = i' ∧ j < j')
/-- the first of the greatest, of those ahead of a place -/
def IsMax (f : Nat → Nat → Nat) (S : Nat → Nat → Prop) (o : Option Move) : Prop := match o with
  | none => ∀ i j, S i j → f i j < 2
  | some k => S k.x k.y ∧ k.n = f k.x k.y ∧ 2 ≤ k.n ∧ (∀ i j, S i j → f i j ≤ k.n) ∧ ∀ i j, S i j → lexlt i j k.x k.y → f i j < k.n
theorem IsMax.uniq {f : Nat → Nat → Nat} {S : Nat → Nat → Prop} {o o' : Option Move} (h : IsMax f S o) (h' : IsMax f S o') : o = o' := by
  cases o with
  | none =>
    cases o' with
    | none => rfl
    | some k => obtain ⟨h1, h2, h3, _⟩ := h'; have := h _ _ h1; omega
  | some k =>
    cases o' with
    | none => obtain ⟨h1, h2, h3, _⟩ := h; have := h' _ _ h1; omega
    | some k' =>
      obtain ⟨h1, h2, h3, h4, h5⟩ := h
      obtain ⟨g1, g2, g3, g4, g5⟩ := h'
      have e : k.n = k'.n := by
        have a1 := h4 _ _ g1
        have a2 := g4 _ _ h1
        omega
      have n1 : ¬ lexlt k'.x k'.y k.x k.y := fun z => by have := h5 _ _ g1 z; omega
      have n2 : ¬ lexlt k.x k.y k'.x k'.y := fun z => by have := g5 _ _ h1 z; omega
      unfold lexlt at n1 n2
      cases k
      cases k'
      simp only at *
      simp only [Option.some.injEq, Move.mk.injEq]
      omega
theorem IsMax.congr {f : Nat → Nat → Nat} {S S' : Nat → Nat → Prop} {o : Option Move} (h : IsMax f S o) (e : ∀ i j, S' i j ↔ S i j) : IsMax f S' o := by
  have : S' = S := by funext i j; exact propext (e i j)
  rw [this]
  exact h
def stepM (b : Option Move) (k : Move) : Option Move := if k.n < 2 then b else match b with
  | some z => if z.n < k.n then some k else some z
  | none => some k
/-- one more pair, behind all those that were met -/
theorem IsMax.add {f : Nat → Nat → Nat} {S : Nat → Nat → Prop} {o : Option Move} {i j : Nat} (h : IsMax f S o) (hb : ∀ i' j', S i' j' → lexlt i' j' i j) : IsMax f (fun i' j' => S i' j' ∨ (i' = i ∧ j' = j)) (stepM o ⟨i, j, f i j⟩) := by
  unfold stepM
  simp only
  by_cases h2 : f i j < 2
  · rw [if_pos h2]
    cases o with
    | none =>
      rintro i' j' (z | ⟨rfl, rfl⟩)
      · exact h _ _ z
      · exact h2
    | some k =>
      obtain ⟨h1, h3, h4, h5, h6⟩ := h
      refine ⟨.inl h1, h3, h4, ?_, ?_⟩
      · rintro i' j' (z | ⟨rfl, rfl⟩)
        · exact h5 _ _ z
        · omega
      · rintro i' j' (z | ⟨rfl, rfl⟩) hl
        · exact h6 _ _ z hl
        · omega
  · rw [if_neg h2]
    cases o with
    | none =>
      refine ⟨.inr ⟨rfl, rfl⟩, rfl, by show 2 ≤ f i j; omega, ?_, ?_⟩
      · rintro i' j' (z | ⟨rfl, rfl⟩)
        · have := h _ _ z; show f i' j' ≤ f i j; omega
        · exact Nat.le_refl _
      · rintro i' j' (z | ⟨rfl, rfl⟩) hl
        · have := h _ _ z; show f i' j' < f i j; omega
        · exfalso; rcases hl with hl | hl
          · exact Nat.lt_irrefl _ hl
          · exact Nat.lt_irrefl _ hl.2
    | some k =>
      obtain ⟨h1, h3, h4, h5, h6⟩ := h
      simp only
      by_cases h7 : k.n < f i j
      · rw [if_pos h7]
        refine ⟨.inr ⟨rfl, rfl⟩, rfl, by show 2 ≤ f i j; omega, ?_, ?_⟩
        · rintro i' j' (z | ⟨rfl, rfl⟩)
          · have := h5 _ _ z; show f i' j' ≤ f i j; omega
          · exact Nat.le_refl _
        · rintro i' j' (z | ⟨rfl, rfl⟩) hl
          · have := h5 _ _ z; show f i' j' < f i j; omega
          · exfalso; rcases hl with hl | hl
            · exact Nat.lt_irrefl _ hl
            · exact Nat.lt_irrefl _ hl.2
      · rw [if_neg h7]
        refine ⟨.inl h1, h3, h4, ?_, ?_⟩
        · rintro i' j' (z | ⟨rfl, rfl⟩)
          · exact h5 _ _ z
          · omega
        · rintro i' j' (z | ⟨rfl, rfl⟩) hl
          · exact h6 _ _ z hl
          · exfalso
            have := hb _ _ h1
            unfold lexlt at this hl
            omega
/-- one more pair that has nothing together -/
theorem IsMax.skip {f : Nat → Nat → Nat} {S : Nat → Nat → Prop} {o : Option Move} {T : Nat → Nat → Prop} (h : IsMax f S o) (h2 : ∀ i j, T i j → f i j = 0) : IsMax f (fun i' j' => S i' j' ∨ T i' j') o := by
  cases o with
  | none =>
    rintro i' j' (z | z)
    · exact h _ _ z
    · rw [h2 _ _ z]; omega
  | some k =>
    obtain ⟨h1, h3, h4, h5, h6⟩ := h
    refine ⟨.inl h1, h3, h4, ?_, ?_⟩
    · rintro i' j' (z | z)
      · exact h5 _ _ z
      · rw [h2 _ _ z]; omega
    · rintro i' j' (z | z) hl
      · exact h6 _ _ z hl
      · rw [h2 _ _ z]; omega
/-- pairs ahead of (i, j) -/
def Bef (n m i j : Nat) (i' j' : Nat) : Prop := i' < n ∧ j' < m ∧ lexlt i' j' i j
def fc (x y : List Cell) (L M : List E) (i j : Nat) : Nat := cnt x y (L.drop i) (M.drop j) i j
theorem drop_some {L : List E} {i : Nat} {e : E} (h : L[i]? = some e) : L.drop i = e :: L.drop (i + 1) := by
  obtain ⟨hl, e'⟩ := List.getElem?_eq_some_iff.mp h
  rw [List.drop_eq_getElem_cons hl, e']
theorem fc_noneL {x y : List Cell} {L M : List E} {i : Nat} (h : L[i]? = some none) (j : Nat) : fc x y L M i j = 0 := by unfold fc; rw [drop_some h, cnt_none]
theorem fc_noneR {x y : List Cell} {L M : List E} {j : Nat} (h : M[j]? = some none) (i : Nat) : fc x y L M i j = 0 := by unfold fc; rw [drop_some h, cnt_noneR]
theorem inner {x y : List Cell} {L M : List E} {i : Nat} {a : Nat × Nat} (hL : Inc L) (hM : Inc M) (hi : L[i]? = some (some a)) : ∀ (r j : Nat) (o : Option Move), j + r = M.length → IsMax (fc x y L M) (Bef L.length M.length i j) o →
    IsMax (fc x y L M) (Bef L.length M.length i M.length) (((tails (wl (M.drop j) j)).map fun (q : Words) => (⟨((wl (L.drop i) i).headD (0, 0)).2, (q.headD (0, 0)).2, together x y (wl (L.drop i) i) q⟩ : Move)).foldl stepM o)
  | 0, j, o, hj, h => by
    have : j = M.length := by omega
    subst this
    rw [List.drop_length]
    exact h
  | r + 1, j, o, hj, h => by
    have hil : i < L.length := (List.getElem?_eq_some_iff.mp hi).1
    have hjl : j < M.length := by omega
    obtain ⟨e, he⟩ : ∃ e, M[j]? = some e := ⟨_, List.getElem?_eq_getElem hjl⟩
    have hS : ∀ i' j', Bef L.length M.length i (j + 1) i' j' ↔ (Bef L.length M.length i j i' j' ∨ (i' = i ∧ j' = j)) := by
      intro i' j'
      unfold Bef lexlt
      omega
    cases e with
    | none =>
      have ew : wl (M.drop j) j = wl (M.drop (j + 1)) (j + 1) := by rw [drop_some he]; rfl
      rw [ew]
      refine inner hL hM hi r (j + 1) o (by omega) ?_
      exact (IsMax.skip h (T := fun i' j' => i' = i ∧ j' = j) (by rintro i' j' ⟨rfl, rfl⟩; exact fc_noneR he _)).congr hS
    | some b =>
      have ew : wl (M.drop j) j = (b.1, j) :: wl (M.drop (j + 1)) (j + 1) := by rw [drop_some he]; rfl
      rw [ew]
      show IsMax _ _ (List.foldl stepM (stepM o _) _)
      refine inner hL hM hi r (j + 1) _ (by omega) ?_
      have ef : (⟨((wl (L.drop i) i).headD (0, 0)).2, (((b.1, j) :: wl (M.drop (j + 1)) (j + 1)).headD (0, 0)).2, together x y (wl (L.drop i) i) ((b.1, j) :: wl (M.drop (j + 1)) (j + 1))⟩ : Move) = ⟨i, j, fc x y L M i j⟩ := by
        rw [← ew]
        have h1 := hL.drop i
        have h2 := hM.drop j
        unfold fc
        rw [drop_some hi] at h1 ⊢
        rw [drop_some he] at h2 ⊢
        rw [together_eq x y _ _ i j a b h1 h2]
        rfl
      have g := (IsMax.add h (fun i' j' z => z.2.2)).congr hS
      rw [← ef] at g
      exact g
theorem outer {x y : List Cell} {L M : List E} (hL : Inc L) (hM : Inc M) : ∀ (r i : Nat) (o : Option Move), i + r = L.length → IsMax (fc x y L M) (Bef L.length M.length i 0) o →
    IsMax (fc x y L M) (Bef L.length M.length L.length 0) (((tails (wl (L.drop i) i)).flatMap fun (p : Words) => (tails (wl M 0)).map fun (q : Words) => (⟨(p.headD (0, 0)).2, (q.headD (0, 0)).2, together x y p q⟩ : Move)).foldl stepM o)
  | 0, i, o, hi, h => by
    have : i = L.length := by omega
    subst this
    rw [List.drop_length]
    exact h
  | r + 1, i, o, hi, h => by
    have hil : i < L.length := by omega
    obtain ⟨e, he⟩ : ∃ e, L[i]? = some e := ⟨_, List.getElem?_eq_getElem hil⟩
    cases e with
    | none =>
      have ew : wl (L.drop i) i = wl (L.drop (i + 1)) (i + 1) := by rw [drop_some he]; rfl
      rw [ew]
      refine outer hL hM r (i + 1) o (by omega) ?_
      refine (IsMax.skip h (T := fun i' j' => i' = i ∧ j' < M.length) (by rintro i' j' ⟨rfl, _⟩; exact fc_noneL he _)).congr fun i' j' => ?_
      unfold Bef lexlt
      omega
    | some a =>
      have ew : wl (L.drop i) i = (a.1, i) :: wl (L.drop (i + 1)) (i + 1) := by rw [drop_some he]; rfl
      have h2 := inner (x := x) (y := y) hL hM he M.length 0 o (by omega) h
      rw [List.drop_zero] at h2
      rw [ew] at h2 ⊢
      show IsMax _ _ (List.foldl stepM o (List.map _ _ ++ _))
      rw [List.foldl_append]
      refine outer hL hM r (i + 1) _ (by omega) (h2.congr fun i' j' => ?_)
      unfold Bef lexlt
      omega
theorem next_max {x y : List Cell} {L M : List E} (hL : Inc L) (hM : Inc M) : IsMax (fc x y L M) (fun i j => i < L.length ∧ j < M.length) (nextMove x y (wl L 0) (wl M 0)) := by
  have h := outer (x := x) (y := y) hL hM L.length 0 none (by omega) (fun i j z => by unfold Bef lexlt at z; omega)
  rw [List.drop_zero] at h
  refine IsMax.congr (S := Bef L.length M.length L.length 0) ?_ fun i j => ?_
  · exact h
  · unfold Bef lexlt
    omega
end Cm

namespace Cm
open Vh
theorem RunsOk.inc {x : List Cell} {L : List E} (h : RunsOk x L) : Inc L := ⟨h.far, h.next⟩
/-! ### words that are taken out -/
def ctE (i n : Nat) : Nat → List E → List E
  | _, [] => []
  | o, e :: r => (if i ≤ o ∧ o < i + n then none else e) :: ctE i n (o + 1) r
theorem ctE_get (i n : Nat) : ∀ (L : List E) (o k : Nat), (ctE i n o L)[k]? = L[k]?.map fun e => if i ≤ o + k ∧ o + k < i + n then none else e
  | [], o, k => by simp [ctE]
  | e :: r, o, 0 => by simp [ctE]
  | e :: r, o, k + 1 => by
    rw [ctE, List.getElem?_cons_succ, List.getElem?_cons_succ, ctE_get i n r (o + 1) k, show o + 1 + k = o + (k + 1) by omega]
theorem ctE_len (i n : Nat) : ∀ (L : List E) (o : Nat), (ctE i n o L).length = L.length
  | [], o => rfl
  | e :: r, o => by rw [ctE, List.length_cons, List.length_cons, ctE_len i n r]
theorem wl_ct (i n : Nat) : ∀ (L : List E) (o : Nat), wl (ctE i n o L) o = Vh.without i n (wl L o)
  | [], o => rfl
  | none :: r, o => by
    rw [ctE]
    have e : (if i ≤ o ∧ o < i + n then none else none : E) = none := by split <;> rfl
    rw [e]
    exact wl_ct i n r (o + 1)
  | some a :: r, o => by
    rw [ctE]
    have ih := wl_ct i n r (o + 1)
    unfold Vh.without at ih ⊢
    by_cases h : i ≤ o ∧ o < i + n
    · rw [if_pos h]
      show wl (ctE i n (o + 1) r) (o + 1) = List.filter _ ((a.1, o) :: wl r (o + 1))
      rw [List.filter_cons_of_neg (by simp; omega)]
      exact ih
    · rw [if_neg h]
      show (a.1, o) :: wl (ctE i n (o + 1) r) (o + 1) = List.filter _ ((a.1, o) :: wl r (o + 1))
      rw [List.filter_cons_of_pos (by simp; omega), ih]
theorem ct_some {i n o k : Nat} {L : List E} {a : Nat × Nat} (h : (ctE i n o L)[k]? = some (some a)) : L[k]? = some (some a) ∧ ¬ (i ≤ o + k ∧ o + k < i + n) := by
  rw [ctE_get] at h
  cases e : L[k]? with
  | none => rw [e] at h; cases h
  | some e' =>
    rw [e, Option.map_some] at h
    by_cases q : i ≤ o + k ∧ o + k < i + n
    · rw [if_pos q] at h; cases h
    · rw [if_neg q] at h; exact ⟨h, q⟩
theorem RunsOk.cut {x : List Cell} {L : List E} (h : RunsOk x L) (i n : Nat) : RunsOk x (ctE i n 0 L) :=
  ⟨by rw [ctE_len]; exact h.len, fun j d a c h1 h2 => h.far j d a c (ct_some h1).1 (ct_some h2).1, fun j a c h1 h2 => h.next j a c (ct_some h1).1 (ct_some h2).1, fun j a h1 => h.word j a (ct_some h1).1⟩
theorem wl_mem {a : Nat × Nat} : ∀ {L : List E} {k o : Nat}, L[k]? = some (some a) → (a.1, o + k) ∈ wl L o
  | [], k, o, h => by simp at h
  | none :: r, 0, o, h => by simp at h
  | none :: r, k + 1, o, h => by
    have := wl_mem (o := o + 1) (show r[k]? = some (some a) by simpa using h)
    rw [show o + (k + 1) = o + 1 + k by omega]
    exact this
  | some b :: r, 0, o, h => by
    simp at h
    subst h
    exact List.mem_cons_self ..
  | some b :: r, k + 1, o, h => by
    have := wl_mem (o := o + 1) (show r[k]? = some (some a) by simpa using h)
    rw [show o + (k + 1) = o + 1 + k by omega]
    exact List.mem_cons_of_mem _ this
theorem cut_less {L : List E} {i n : Nat} {a : Nat × Nat} (h : L[i]? = some (some a)) (hn : 1 ≤ n) : (wl (ctE i n 0 L) 0).length < (wl L 0).length := by
  rw [wl_ct]
  unfold Vh.without
  have hm := wl_mem (o := 0) h
  rw [Nat.zero_add] at hm
  refine Nat.lt_of_le_of_ne (List.length_filter_le _ _) fun e => ?_
  have := List.length_filter_eq_length_iff.mp e _ hm
  simp at this
  omega
theorem wl_le : ∀ (L : List E) (o : Nat), (wl L o).length ≤ L.length
  | [], o => Nat.le_refl _
  | none :: r, o => Nat.le_succ_of_le (wl_le r (o + 1))
  | some a :: r, o => Nat.succ_le_succ (wl_le r (o + 1))
theorem ck_le (kind : Nat) (tk : Nat → Bool) : ∀ (l : List Nat) (k : Nat) (pr : Option Nat), (ck kind tk k pr l).length ≤ l.length
  | [], k, pr => Nat.le_refl _
  | s :: r, k, pr => by
    rw [ck]
    have h1 := ck_le kind tk r (k + 1) (some (pr.getD k))
    have h2 := ck_le kind tk r (k + 1) none
    split
    · simp only [List.length_cons]; omega
    · split
      · simp only [List.length_cons]; omega
      · simp only [List.length_cons]; omega
theorem told_fuel (s : List Nat) : (wl (LX s) 0).length < s.length + 1 := by
  have h1 := wl_le (LX s) 0
  have h2 := ck_le 3 takesXOne s 0 none
  unfold LX at *
  omega
/-! ### counts, place by place -/
theorem cnt_le (x y : List Cell) : ∀ (p q : List E) (i j : Nat), cnt x y p q i j ≤ p.length ∧ cnt x y p q i j ≤ q.length
  | [], q, i, j => by rw [cnt_nil]; exact ⟨Nat.zero_le _, Nat.zero_le _⟩
  | none :: p, q, i, j => by rw [cnt_none]; exact ⟨Nat.zero_le _, Nat.zero_le _⟩
  | some a :: p, [], i, j => by rw [cnt_nilR]; exact ⟨Nat.zero_le _, Nat.zero_le _⟩
  | some a :: p, none :: q, i, j => by rw [cnt_noneR]; exact ⟨Nat.zero_le _, Nat.zero_le _⟩
  | some a :: p, some b :: q, i, j => by
    rw [cnt]
    have := cnt_le x y p q (i + 1) (j + 1)
    split
    · exact ⟨Nat.zero_le _, Nat.zero_le _⟩
    · simp only [List.length_cons]
      split
      · omega
      · omega
theorem fc_le {x y : List Cell} {L M : List E} {i j : Nat} : fc x y L M i j ≤ L.length - i ∧ fc x y L M i j ≤ M.length - j := by
  have := cnt_le x y (L.drop i) (M.drop j) i j
  rw [List.length_drop, List.length_drop] at this
  exact this
theorem fc_out {x y : List Cell} {L M : List E} {i j : Nat} (h : L.length ≤ i) : fc x y L M i j = 0 := by
  unfold fc
  rw [List.drop_eq_nil_of_le h, cnt_nil]
theorem fc_pos {x y : List Cell} {L M : List E} {i j : Nat} (h : 0 < fc x y L M i j) : (∃ a, L[i]? = some (some a)) ∧ ∃ b, M[j]? = some (some b) := by
  have hl := fc_le (x := x) (y := y) (L := L) (M := M) (i := i) (j := j)
  constructor
  · obtain ⟨e, he⟩ : ∃ e, L[i]? = some e := ⟨_, List.getElem?_eq_getElem (by omega)⟩
    cases e with
    | none => rw [fc_noneL he] at h; omega
    | some a => exact ⟨a, he⟩
  · obtain ⟨e, he⟩ : ∃ e, M[j]? = some e := ⟨_, List.getElem?_eq_getElem (by omega)⟩
    cases e with
    | none => rw [fc_noneR he] at h; omega
    | some a => exact ⟨a, he⟩
def goB (L : List E) (i : Nat) : Prop := ∃ a c, L[i]? = some (some a) ∧ L[i + 1]? = some (some c) ∧ c.2 = a.2
theorem goR_iff {L : List E} {i : Nat} {a : Nat × Nat} (h : L[i]? = some (some a)) : goR a (L.drop (i + 1)) = true ↔ goB L i := by
  unfold goB
  cases e : L[i + 1]? with
  | none =>
    rw [List.drop_eq_nil_of_le (List.getElem?_eq_none_iff.mp e)]
    simp [goR]
  | some v =>
    rw [drop_some e]
    cases v with
    | none => simp [goR]
    | some c =>
      rw [h]
      simp [goR]
theorem fc_some {x y : List Cell} {L M : List E} {i j : Nat} {a b : Nat × Nat} (h1 : L[i]? = some (some a)) (h2 : M[j]? = some (some b)) : fc x y L M i j = if alikeAt x y i j = false then 0 else 1 + (if goR a (L.drop (i + 1)) = true ∧ goR b (M.drop (j + 1)) = true then fc x y L M (i + 1) (j + 1) else 0) := by
  unfold fc
  rw [drop_some h1, drop_some h2, cnt]
theorem fc_unlike {x y : List Cell} {L M : List E} {i j : Nat} (h : alikeAt x y i j = false) : fc x y L M i j = 0 := by
  by_cases z : 0 < fc x y L M i j
  · obtain ⟨⟨a, h1⟩, b, h2⟩ := fc_pos z
    rw [fc_some h1 h2, if_pos h]
  · omega
theorem fc_go {x y : List Cell} {L M : List E} {i j : Nat} {a b : Nat × Nat} (h1 : L[i]? = some (some a)) (h2 : M[j]? = some (some b)) (h : alikeAt x y i j = true) (g1 : goB L i) (g2 : goB M j) : fc x y L M i j = 1 + fc x y L M (i + 1) (j + 1) := by
  rw [fc_some h1 h2, if_neg (by rw [h]; exact Bool.noConfusion), if_pos ⟨(goR_iff h1).mpr g1, (goR_iff h2).mpr g2⟩]
theorem fc_stop {x y : List Cell} {L M : List E} {i j : Nat} {a b : Nat × Nat} (h1 : L[i]? = some (some a)) (h2 : M[j]? = some (some b)) (h : alikeAt x y i j = true) (g : ¬ (goB L i ∧ goB M j)) : fc x y L M i j = 1 := by
  rw [fc_some h1 h2, if_neg (by rw [h]; exact Bool.noConfusion), if_neg fun z => g ⟨(goR_iff h1).mp z.1, (goR_iff h2).mp z.2⟩]
theorem alikeAt_iff {x y : List Cell} {i j : Nat} {l m : Letters} (h1 : x[i]? = some (.word l)) (h2 : y[j]? = some (.word m)) : alikeAt x y i j = true ↔ l = m ∧ LOST ∉ l := by
  unfold alikeAt wordAt
  rw [h1, h2]
  simp [alike, hasLost]
/-! ### the greatest, met from the ends -/
def Best (f : Nat → Nat → Nat) (S : Nat → Nat → Prop) (g : Move) : Prop := (∀ i j, S i j → f i j ≤ g.n) ∧ (g.n = 0 ∨ (S g.x g.y ∧ f g.x g.y = g.n ∧ ∀ i j, S i j → lexlt i j g.x g.y → f i j < g.n))
/-- pairs at (i, j) and behind -/
def Aft (n m i j : Nat) (i' j' : Nat) : Prop := i' < n ∧ j' < m ∧ ¬ lexlt i' j' i j
theorem Best.congr {f : Nat → Nat → Nat} {S S' : Nat → Nat → Prop} {g : Move} (h : Best f S g) (e : ∀ i j, S' i j ↔ S i j) : Best f S' g := by
  have : S' = S := by funext i j; exact propext (e i j)
  rw [this]
  exact h
theorem best_add {f : Nat → Nat → Nat} {n m i j : Nat} {g : Move} (hi : i < n) (hj : j < m) (h : Best f (Aft n m i (j + 1)) g) : Best f (Aft n m i j) (if g.n ≤ f i j then ⟨i, j, f i j⟩ else g) := by
  have hS : ∀ i' j', Aft n m i j i' j' ↔ (Aft n m i (j + 1) i' j' ∨ (i' = i ∧ j' = j)) := by
    intro i' j'
    unfold Aft lexlt
    omega
  obtain ⟨h1, h2⟩ := h
  by_cases hc : g.n ≤ f i j
  · rw [if_pos hc]
    refine ⟨fun i' j' z => ?_, ?_⟩
    · rcases (hS i' j').mp z with z | ⟨rfl, rfl⟩
      · have := h1 _ _ z; show f i' j' ≤ f i j; omega
      · exact Nat.le_refl _
    · right
      refine ⟨(hS i j).mpr (.inr ⟨rfl, rfl⟩), rfl, fun i' j' z hl => ?_⟩
      exfalso
      unfold Aft at z
      exact z.2.2 hl
  · rw [if_neg hc]
    refine ⟨fun i' j' z => ?_, ?_⟩
    · rcases (hS i' j').mp z with z | ⟨rfl, rfl⟩
      · exact h1 _ _ z
      · omega
    · rcases h2 with h2 | ⟨h2, h3, h4⟩
      · omega
      · right
        refine ⟨(hS _ _).mpr (.inl h2), h3, fun i' j' z hl => ?_⟩
        rcases (hS i' j').mp z with z | ⟨rfl, rfl⟩
        · exact h4 _ _ z hl
        · omega
theorem best_row {f : Nat → Nat → Nat} {n m i : Nat} {g : Move} (h : Best f (Aft n m (i + 1) 0) g) : Best f (Aft n m i m) g := h.congr fun i' j' => by
  unfold Aft lexlt
  omega
theorem best_none {f : Nat → Nat → Nat} {n m : Nat} : Best f (Aft n m n 0) ⟨0, 0, 0⟩ := ⟨fun i j z => by unfold Aft lexlt at z; omega, .inl rfl⟩
theorem best_next {x y : List Cell} {L M : List E} {g : Move} (hL : Inc L) (hM : Inc M) (h : Best (fc x y L M) (Aft L.length M.length 0 0) g) : nextMove x y (wl L 0) (wl M 0) = if 2 ≤ g.n then some g else none := by
  refine IsMax.uniq (next_max hL hM) ?_
  have hS : ∀ i j, (i < L.length ∧ j < M.length) ↔ Aft L.length M.length 0 0 i j := by
    intro i j
    unfold Aft lexlt
    omega
  refine IsMax.congr (S := Aft L.length M.length 0 0) ?_ hS
  obtain ⟨h1, h2⟩ := h
  by_cases hc : 2 ≤ g.n
  · rw [if_pos hc]
    rcases h2 with h2 | ⟨h2, h3, h4⟩
    · omega
    · exact ⟨h2, h3.symm, hc, h1, h4⟩
  · rw [if_neg hc]
    intro i j z
    have := h1 _ _ z
    omega
/-- where a greatest begins, and how far it goes -/
theorem best_in {x y : List Cell} {L M : List E} {g : Move} (h : Best (fc x y L M) (Aft L.length M.length 0 0) g) (hg : 2 ≤ g.n) : g.x + g.n ≤ L.length ∧ g.y + g.n ≤ M.length ∧ ∃ a, L[g.x]? = some (some a) := by
  obtain ⟨h1, h2⟩ := h
  rcases h2 with h2 | ⟨h2, h3, h4⟩
  · omega
  · have hl := fc_le (x := x) (y := y) (L := L) (M := M) (i := g.x) (j := g.y)
    have hp := fc_pos (x := x) (y := y) (L := L) (M := M) (i := g.x) (j := g.y) (by omega)
    exact ⟨by omega, by omega, hp.1⟩
theorem told_stop {x y : List Cell} {L M : List E} {g : Move} {f : Nat} (hL : Inc L) (hM : Inc M) (h : Best (fc x y L M) (Aft L.length M.length 0 0) g) (hg : ¬ 2 ≤ g.n) : movesFrom x y f (wl L 0) (wl M 0) = [] := by
  cases f with
  | zero => rfl
  | succ f => rw [movesFrom, best_next hL hM h, if_neg hg]
theorem told_go {x y : List Cell} {L M : List E} {g : Move} {f : Nat} (hL : Inc L) (hM : Inc M) (h : Best (fc x y L M) (Aft L.length M.length 0 0) g) (hg : 2 ≤ g.n) : movesFrom x y (f + 1) (wl L 0) (wl M 0) = g :: movesFrom x y f (wl (ctE g.x g.n 0 L) 0) (wl (ctE g.y g.n 0 M) 0) := by
  rw [movesFrom, best_next hL hM h, if_pos hg, wl_ct, wl_ct]
end Cm

set_option Elab.async false
set_option linter.all false
set_option maxRecDepth 100000
/-! THE HAND LAYER, for ints, bools, texts, own classes, lists, tuples, dicts, comprehensions, walks over dicts, enumerate, zip, reversed, texts, calls, loops. Paste it whole ahead of your own text; what your proof does not reach may be deleted. -/
namespace L2
open PySem PySem.Spec PyProof.Rows

/-- a key: an int or a str -/
abbrev Key := Sum Int Str
def keyIs : Key → Value → Bool
  | .inl k, v => Value.isInt k v
  | .inr x, v => Value.isStrOf x v
def keyH (w : World) : Key → Int
  | .inl k => hashInt k
  | .inr x => hashStr w x
theorem keyIs_shape : ∀ {k : Key} {v : Value}, keyIs k v = true → (∃ i t, k = Sum.inl i ∧ v = Value.int i t) ∨ (∃ x t, k = Sum.inr x ∧ v = Value.str x t)
  | .inl i, v, h => by
    obtain ⟨t, e⟩ := Value.isInt_shape (k := i) (v := v) h
    exact .inl ⟨i, t, rfl, e⟩
  | .inr x, v, h => by
    obtain ⟨t, e⟩ := Value.isStrOf_shape (x := x) (v := v) h
    exact .inr ⟨x, t, rfl, e⟩
theorem key_ll (a b : Int) : decide ((Sum.inl a : Key) = Sum.inl b) = (a == b) := by
  by_cases e : a = b
  · subst e; simp
  · have h : ¬ (Sum.inl a : Key) = Sum.inl b := fun q => e (Sum.inl.inj q)
    rw [decide_eq_false h]
    exact (beq_eq_false_iff_ne.mpr e).symm
theorem key_rr (a b : Str) : decide ((Sum.inr a : Key) = Sum.inr b) = decide (a = b) := by
  by_cases e : a = b
  · subst e; simp
  · have h : ¬ (Sum.inr a : Key) = Sum.inr b := fun q => e (Sum.inr.inj q)
    rw [decide_eq_false h, decide_eq_false e]
theorem key_lr (a : Int) (b : Str) : decide ((Sum.inl a : Key) = Sum.inr b) = false := decide_eq_false (fun q => nomatch q)
theorem key_rl (a : Str) (b : Int) : decide ((Sum.inr a : Key) = Sum.inl b) = false := decide_eq_false (fun q => nomatch q)

def mixKind (prog : Program) (w : World) : PySem.KeyKind prog w Key where
  is := keyIs
  hash := keyH w
  inj := fun v a b ha hb => by
    rcases keyIs_shape ha with ⟨i, t, rfl, rfl⟩ | ⟨x, t, rfl, rfl⟩
    · rcases keyIs_shape hb with ⟨j, u, rfl, e⟩ | ⟨y, u, rfl, e⟩
      · injection e with e1 _; rw [e1]
      · exact nomatch e
    · rcases keyIs_shape hb with ⟨j, u, rfl, e⟩ | ⟨y, u, rfl, e⟩
      · exact nomatch e
      · injection e with e1 _; rw [e1]
  byValue := fun k v h => by
    rcases keyIs_shape h with ⟨i, t, rfl, rfl⟩ | ⟨x, t, rfl, rfl⟩ <;> rfl
  pyHash := fun hv h => by
    rcases keyIs_shape hv with ⟨i, t, rfl, rfl⟩ | ⟨x, t, rfl, rfl⟩
    · exact wpAny_pyHash_int h
    · exact wpAny_pyHash_str h
  eqBool := fun hu hv h => by
    rcases keyIs_shape hu with ⟨i, t, rfl, rfl⟩ | ⟨x, t, rfl, rfl⟩
    · rcases keyIs_shape hv with ⟨j, u, rfl, rfl⟩ | ⟨y, u, rfl, rfl⟩
      · rw [key_ll] at h; exact wpAny_eqBool_int h
      · rw [key_lr] at h; exact SeqAt.EqAt.int_str i t y u _ _ _ _ h
    · rcases keyIs_shape hv with ⟨j, u, rfl, rfl⟩ | ⟨y, u, rfl, rfl⟩
      · rw [key_rl] at h; exact SeqAt.EqAt.str_int x t j u _ _ _ _ h
      · rw [key_rr] at h; exact wpAny_eqBool_str h
  «strs» := fun k x t v h => by
    rcases keyIs_shape h with ⟨i, u, rfl, e⟩ | ⟨y, u, rfl, e⟩
    · exact nomatch e
    · injection e with e1 _
      subst e1
      cases v <;> rfl

end L2

namespace L2
open PySem PySem.Spec PyProof.Rows

/-- a value, without the heap -/
inductive V where
  | non | bl (b : Bool) | int (i : Int) | str (x : Str) | byt (b : Array UInt8) | flt (b : UInt64) | ref (a : Addr) | ty (n : String)
  deriving DecidableEq

def RelV : V → Value → Prop
  | .non, u => u = Value.none
  | .bl b, u => u = Value.bool b
  | .int i, u => ∃ t, u = Value.int i t
  | .str x, u => ∃ t, u = Value.str x t
  | .byt b, u => ∃ t, u = Value.bytes b t
  | .flt b, u => ∃ t, u = Value.float b t
  | .ref a, u => u = Value.ref a
  | .ty n, u => u = Value.type n

abbrev Vals : List V → List Value → Prop := Paired RelV
theorem Vals.length {xs : List V} {us : List Value} (r : Vals xs us) : xs.length = us.length := Paired.length r
theorem Vals.get : ∀ {xs : List V} {us : List Value} {i : Nat} {x : V}, Vals xs us → xs[i]? = some x → ∃ u, us[i]? = some u ∧ RelV x u
  | _, _, _, _, .nil, e => by simp at e
  | _, _, 0, _, .cons r _, e => by simp at e; subst e; exact ⟨_, rfl, r⟩
  | _, _, i + 1, x, .cons _ t, e => by
    obtain ⟨u, h1, h2⟩ := Vals.get (i := i) (x := x) t (by simpa using e)
    exact ⟨u, by simpa using h1, h2⟩
theorem Vals.set {x : V} {u : Value} (r : RelV x u) : ∀ {xs : List V} {us : List Value} (i : Nat), Vals xs us → Vals (xs.set i x) (us.set i u)
  | _, _, _, .nil => .nil
  | _, _, 0, .cons _ t => .cons r t
  | _, _, i + 1, .cons q t => .cons q (Vals.set r i t)
theorem Vals.append : ∀ {xs ys : List V} {us ws : List Value}, Vals xs us → Vals ys ws → Vals (xs ++ ys) (us ++ ws)
  | _, _, _, _, .nil, s => s
  | _, _, _, _, .cons r t, s => .cons r (Vals.append t s)
theorem Vals.take : ∀ {xs : List V} {us : List Value} (n : Nat), Vals xs us → Vals (xs.take n) (us.take n)
  | _, _, 0, _ => .nil
  | _, _, _ + 1, .nil => .nil
  | _, _, n + 1, .cons r t => .cons r (Vals.take n t)
theorem Vals.drop : ∀ {xs : List V} {us : List Value} (n : Nat), Vals xs us → Vals (xs.drop n) (us.drop n)
  | _, _, 0, r => r
  | _, _, _ + 1, .nil => .nil
  | _, _, n + 1, .cons _ t => Vals.drop n t
def RelO : Option V → Option Value → Prop
  | some v, some u => RelV v u
  | none, none => True
  | _, _ => False
def KV {κ : Type} : List (κ × V) → List (κ × Value) → Prop := Paired fun (p : κ × V) (q : κ × Value) => p.1 = q.1 ∧ RelV p.2 q.2

/-- a key of a dict (00_mix): an int or a text -/
def kV : Key → V
  | .inl i => .int i
  | .inr x => .str x

/-- what stands at a tracked address -/
inductive HO where
  /-- a list -/
  | lst (xs : List V)
  /-- a tuple (never changes) -/
  | tup (xs : List V)
  /-- a dict whose keys are ints and texts; one whose keys are tuples of ints and texts (the empty one is both) -/
  | dK (kvs : List (Key × V)) | dT (kvs : List (List Key × V))
  /-- a set of ints: its members, its size -/
  | set (S : Int → Bool) (n : Nat)
  /-- an instance of the class at C, its dict at dx, its attributes -/
  | ins (C dx : Addr) (fs : List (Str × V))
  /-- the dict of the instance at x -/
  | own (x : Addr)
  /-- the dict of an exception -/
  | xd (fs : List (Str × V))
  /-- a bound method, f of x -/
  | met (f x : Addr)
  /-- a range object lo, lo + 1, .. below hi -/
  | rng (lo hi : Int)
  /-- a thing that is known to the object (the script; a dict while a loop walks it): read, never written while it is so -/
  | frz (o : Obj) (u : HO)
  /-- a code object's table -/
  | tbl (ps : Array Value)
  /-- any other thing, by what is true of its one object (a def of one's own: SetO a S n := HO.ext fun h => ..) -/
  | ext (φ : Heap → Prop)

abbrev Hp := Addr → Option HO
def upd (H : Hp) (a : Addr) (o : HO) : Hp := fun b => if b = a then some o else H b
theorem upd_same {H : Hp} {a : Addr} {o : HO} : upd H a o a = some o := by unfold upd; rw [if_pos rfl]
theorem upd_ne {H : Hp} {a b : Addr} {o : HO} (h : b ≠ a) : upd H a o b = H b := by unfold upd; rw [if_neg h]
/-- two objects of different content stand apart -/
theorem ne_of {H : Hp} {a b : Addr} {o u : HO} (h : H a = some o) (h' : H b = some u) (d : o ≠ u) : a ≠ b := by
  intro e; subst e; rw [h] at h'; exact d (Option.some.inj h')
theorem ne_of_none {H : Hp} {a b : Addr} {o : HO} (h : H a = some o) (h' : H b = none) : a ≠ b := by
  intro e; subst e; rw [h] at h'; cases h'

section
variable (P : Program) (w : World)
def ObjOk (H : Hp) (h : Heap) (a : Addr) : HO → Prop
  | .lst xs => xs.length ≤ sizeLine ∧ ∃ (its : List Value) (n : Nat), Vals xs its ∧ h.get? a = some { cls := .type "list", data := .seq its.toArray n }
  | .tup xs => xs.length ≤ sizeLine ∧ ∃ its : List Value, Vals xs its ∧ IsTup h a its.toArray
  | .dK kvs => kvs.length ≤ sizeLine ∧ (a == sysModules) = false ∧ ∃ vs, KV kvs vs ∧ h.DictOf (mixKind P w) a vs
  | .dT kvs => kvs.length ≤ sizeLine ∧ (a == sysModules) = false ∧ ∃ xs : List (List Key × Addr × Value),
      Paired (fun (p : List Key × V) (q : List Key × Addr × Value) => p.1 = q.1 ∧ H q.2.1 = some (.tup (p.1.map kV)) ∧ RelV p.2 q.2.2) kvs xs ∧
      ∃ o es ep, h.get? a = some o ∧ o.ExactDict ∧ o.data = .dict es ep ∧ es.toList = xs.map (entryOfKey (tupleKind (mixKind P w))) ∧ (xs.map (·.1)).Nodup
  | .set S n => h.SetOf (intKind P w) a S n
  | .ins C dx fs => H dx = some (.own a) ∧ fs.length ≤ 1000 ∧ dx ≠ a ∧ h.get? a = some (PySem.W.instObj C dx) ∧
      ∃ mA, h.Ns1 dx mA ∧ (∀ f, RelO (fs.lookup f) (mA f)) ∧ PySem.Within mA (fs.map (·.1))
  | .own _ => ∃ o, h.get? a = some o
  | .xd fs => ∃ mA, h.Ns1 a mA ∧ ∀ f, RelO (fs.lookup f) (mA f)
  | .rng lo hi => ∃ t u v, h.get? a = some { cls := .type "range", data := .fields #[.int lo t, .int hi u, .int 1 v] }
  | .frz o u => h.get? a = some o ∧ ObjOk H h a u
  | .tbl ps => h.get? a = some { cls := .none, data := .fields ps }
  | .met f x => h.get? a = some (PySem.W.methodObj (.ref f) (.ref x))
  | .ext φ => φ h ∧ (∃ o, h.get? a = some o) ∧ ∀ h1 h2 : Heap, φ h1 → (∀ o, h1.get? a = some o → h2.get? a = some o) → φ h2
/-- the abstract heap is held -/
def HOk (H : Hp) (h : Heap) : Prop := ∀ a o, H a = some o → ObjOk P w H h a o
end

section
variable {P : Program} {w : World} {H H' : Hp} {h h' : Heap} {a : Addr} {o : HO}
theorem ObjOk.lt (x : ObjOk P w H h a o) : a < h.objs.size := by
  cases o with
  | lst xs => obtain ⟨_, _, _, _, e⟩ := x; exact Heap.lt_size e
  | tup xs => obtain ⟨_, _, _, p⟩ := x; exact p.lt
  | dK kvs => obtain ⟨_, _, _, _, o, _, _, e, _⟩ := x; exact Heap.lt_size e
  | dT kvs => obtain ⟨_, _, _, _, o, _, _, e, _⟩ := x; exact Heap.lt_size e
  | set S n => obtain ⟨o, _, _, _, e, _⟩ := x; exact Heap.lt_size e
  | ins C dx fs => obtain ⟨_, _, _, e, _⟩ := x; exact Heap.lt_size e
  | own y => obtain ⟨_, e⟩ := x; exact Heap.lt_size e
  | xd fs => obtain ⟨_, ⟨_, _, _, e, _⟩, _⟩ := x; exact Heap.lt_size e
  | rng lo hi => obtain ⟨_, _, _, e⟩ := x; exact Heap.lt_size e
  | frz ob u => obtain ⟨e, _⟩ := x; exact Heap.lt_size e
  | tbl ps => exact Heap.lt_size (show h.get? a = some _ from x)
  | met f y => exact Heap.lt_size (show h.get? a = some _ from x)
  | ext φ => obtain ⟨_, ⟨_, e⟩, _⟩ := x; exact Heap.lt_size e
theorem Paired.mapP {α β : Type} {F G : α → β → Prop} : ∀ {l₁ : List α} {l₂ : List β}, Paired F l₁ l₂ → (∀ a b, F a b → G a b) → Paired G l₁ l₂
  | _, _, .nil, _ => .nil
  | _, _, .cons r t, f => .cons (f _ _ r) (Paired.mapP t f)
/-- what an object's description leans on: its own object, its own dict, the tuples -/
theorem ObjOk.stay (x : ObjOk P w H h a o) (k : ∀ b u, (b = a ∨ H b = some (.own a)) → h.get? b = some u → h'.get? b = some u)
    (ho : ∀ b, H b = some (.own a) → H' b = some (.own a)) (ht : ∀ b xs, H b = some (.tup xs) → H' b = some (.tup xs)) : ObjOk P w H' h' a o := by
  induction o with
  | lst xs => obtain ⟨z, its, n, r, e⟩ := x; exact ⟨z, its, n, r, k _ _ (.inl rfl) e⟩
  | tup xs => obtain ⟨z, its, r, ob, e, c⟩ := x; exact ⟨z, its, r, ob, k _ _ (.inl rfl) e, c⟩
  | dK kvs => obtain ⟨z, y, vs, r, ob, es, ep, e, c⟩ := x; exact ⟨z, y, vs, r, ob, es, ep, k _ _ (.inl rfl) e, c⟩
  | dT kvs =>
    obtain ⟨z, y, xs, r, ob, es, ep, e, c⟩ := x
    exact ⟨z, y, xs, Paired.mapP r fun p q z => ⟨z.1, ht _ _ z.2.1, z.2.2⟩, ob, es, ep, k _ _ (.inl rfl) e, c⟩
  | set S n => obtain ⟨ob, es, ep, t, e, c⟩ := x; exact ⟨ob, es, ep, t, k _ _ (.inl rfl) e, c⟩
  | ins C dx fs =>
    obtain ⟨d, z, ne, e, mA, ⟨od, es, ep, e2, c⟩, r⟩ := x
    exact ⟨ho _ d, z, ne, k _ _ (.inl rfl) e, mA, ⟨od, es, ep, k _ _ (.inr d) e2, c⟩, r⟩
  | own y => obtain ⟨ob, e⟩ := x; exact ⟨ob, k _ _ (.inl rfl) e⟩
  | xd fs => obtain ⟨mA, ⟨od, es, ep, e, c⟩, r⟩ := x; exact ⟨mA, ⟨od, es, ep, k _ _ (.inl rfl) e, c⟩, r⟩
  | rng lo hi => obtain ⟨t, u, v, e⟩ := x; exact ⟨t, u, v, k _ _ (.inl rfl) e⟩
  | frz ob u ih => obtain ⟨e, q⟩ := x; exact ⟨k _ _ (.inl rfl) e, ih q⟩
  | tbl ps =>
    have e : h.get? a = some { cls := .none, data := .fields ps } := x
    show h'.get? a = some { cls := .none, data := .fields ps }
    exact k a _ (.inl rfl) e
  | met f y =>
    have e : h.get? a = some (PySem.W.methodObj (.ref f) (.ref y)) := x
    show h'.get? a = some (PySem.W.methodObj (.ref f) (.ref y))
    exact k a _ (.inl rfl) e
  | ext φ => obtain ⟨p, ⟨o, e⟩, st⟩ := x; exact ⟨st _ _ p fun o q => k _ _ (.inl rfl) q, ⟨o, k _ _ (.inl rfl) e⟩, st⟩
theorem HOk.lt (x : HOk P w H h) (e : H a = some o) : a < h.objs.size := (x a o e).lt
theorem HOk.fresh (x : HOk P w H h) (e : h.objs.size ≤ a) : H a = none := by
  cases q : H a with
  | none => rfl
  | some u => exact absurd (Nat.lt_of_lt_of_le (x.lt q) e) (Nat.lt_irrefl _)
/-- every object of the heap is kept -/
theorem HOk.kept (x : HOk P w H h) (k : ∀ b u, h.get? b = some u → h'.get? b = some u) : HOk P w H h' := fun a o e =>
  (x a o e).stay (fun b u _ q => k b u q) (fun _ q => q) fun _ _ q => q
/-- a new object is laid and tracked -/
theorem HOk.laid (x : HOk P w H h) (k : ∀ b u, h.get? b = some u → h'.get? b = some u) (hp : h.objs.size ≤ a) (new : ObjOk P w (upd H a o) h' a o) : HOk P w (upd H a o) h' := fun b u e => by
  have hn := x.fresh hp
  by_cases hb : b = a
  · subst hb; rw [upd_same] at e; cases e; exact new
  · rw [upd_ne hb] at e
    exact (x b u e).stay (fun c v _ q => k c v q) (fun c q => by rw [upd_ne (ne_of_none q hn)]; exact q) fun c xs q => by rw [upd_ne (ne_of_none q hn)]; exact q
end

/-- what may be read as u: it is u, or a known u -/
def Rd (H : Hp) (a : Addr) (u : HO) : Prop := H a = some u ∨ ∃ o, H a = some (.frz o u)
theorem Rd.ok {P : Program} {w : World} {H : Hp} {h : Heap} {a : Addr} {u : HO} (r : Rd H a u) (x : HOk P w H h) : ObjOk P w H h a u := by
  rcases r with r | ⟨o, r⟩
  · exact x a u r
  · obtain ⟨_, q⟩ := x a _ r
    exact q
/-- what may be written -/
def Mut : Option HO → Prop
  | some (.lst _) => True
  | some (.dK _) => True
  | some (.dT _) => True
  | some (.set _ _) => True
  | some (.ins _ _ _) => True
  | some (.ext _) => True
  | _ => False
section
variable {P : Program} {w : World} {H : Hp} {h h' : Heap} {x e : Addr} {o' : HO}
/-- the object at e is changed: x itself, or the dict of the instance x -/
theorem HOk.write (ok : HOk P w H h) (mu : Mut (H x)) (he : e = x ∨ H e = some (.own x)) (k : ∀ b u, b ≠ e → h.get? b = some u → h'.get? b = some u) (heo : ∃ u, h'.get? e = some u)
    (new : ObjOk P w (upd H x o') h' x o') : HOk P w (upd H x o') h' := fun b u q => by
  have nown : ∀ c y, H c = some (.own y) → c ≠ x := fun c y r z => by subst z; rw [r] at mu; exact mu
  have ntup : ∀ c xs, H c = some (.tup xs) → c ≠ x := fun c xs r z => by subst z; rw [r] at mu; exact mu
  by_cases hb : b = x
  · subst hb; rw [upd_same] at q; cases q; exact new
  · rw [upd_ne hb] at q
    by_cases hbe : b = e
    · have q' : H b = some (.own x) := by
        rcases he with z | z
        · exact absurd (hbe.trans z) hb
        · rw [hbe]; exact z
      rw [q] at q'; cases q'
      obtain ⟨v, hv⟩ := heo
      exact ⟨v, by rw [hbe]; exact hv⟩
    · refine (ok b u q).stay (fun c v hc r => k c v ?_ r) (fun c r => by rw [upd_ne (nown c b r)]; exact r) fun c xs r => by rw [upd_ne (ntup c xs r)]; exact r
      rcases hc with rfl | hc
      · exact hbe
      · rintro rfl
        rcases he with z | z
        · exact nown c b hc z
        · rw [hc] at z; cases z; exact hb rfl
end

/-! ### kept unless tracked; of the frames at fs (the callers') the slots may change (an exception that passes writes there); of the records at ex (iterators) nothing is said -/
structure Un (fs ex : List Addr) (H H' : Hp) (h h' : Heap) : Prop where
  keep : ∀ b o, h.get? b = some o → H b = none → b ∉ fs → b ∉ ex → h'.get? b = some o
  slot : ∀ b o, h.get? b = some o → H b = none → b ∈ fs → b ∉ ex → ∃ sl, h'.get? b = some { o with slots := sl }
  free : ∀ b o, h.get? b = some o → H b = none → b ∉ ex → H' b = none
  there : ∀ b o, h.get? b = some o → b ∉ ex → ∃ o', h'.get? b = some o'
  tups : ∀ b xs, H b = some (.tup xs) → H' b = some (.tup xs)
  frzs : ∀ b o u, H b = some (.frz o u) → H' b = some (.frz o u)
  tbls : ∀ b ps, H b = some (.tbl ps) → ∃ more, H' b = some (.tbl (ps ++ more))
section
variable {fs fs' ex ex' : List Addr} {H H1 H2 : Hp} {h h1 h2 h' : Heap} {a x e : Addr} {o : HO}
theorem Un.any (u : Un fs ex H H1 h h1) {b : Addr} {ob : Obj} (q : h.get? b = some ob) (n : H b = none) (hx : b ∉ ex) : ∃ sl, h1.get? b = some { ob with slots := sl } := by
  by_cases hb : b ∈ fs
  · exact u.slot b ob q n hb hx
  · exact ⟨ob.slots, u.keep b ob q n hb hx⟩
theorem Un.kept (k : ∀ b u, h.get? b = some u → h'.get? b = some u) : Un fs ex H H h h' :=
  ⟨fun b ob q _ _ _ => k b ob q, fun b ob q _ _ _ => ⟨ob.slots, k b ob q⟩, fun _ _ _ n _ => n, fun b ob q _ => ⟨ob, k b ob q⟩, fun _ _ q => q, fun _ _ _ q => q, fun _ ps q => ⟨#[], by rw [q]; simp⟩⟩
theorem Un.refl : Un fs ex H H h h := Un.kept fun _ _ q => q
theorem Un.laid (k : ∀ b u, h.get? b = some u → h'.get? b = some u) (hp : h.objs.size ≤ a) (hn : H a = none) : Un fs ex H (upd H a o) h h' where
  keep := fun b u q _ _ _ => k b u q
  slot := fun b u q _ _ _ => ⟨u.slots, k b u q⟩
  free := fun b u q n _ => by rw [upd_ne (Nat.ne_of_lt (Nat.lt_of_lt_of_le (Heap.lt_size q) hp))]; exact n
  there := fun b u q _ => ⟨u, k b u q⟩
  tups := fun b xs q => by rw [upd_ne (ne_of_none q hn)]; exact q
  frzs := fun b u xs q => by rw [upd_ne (ne_of_none q hn)]; exact q
  tbls := fun b ps q => ⟨#[], by rw [upd_ne (ne_of_none q hn), q]; simp⟩
theorem Un.write (mu : Mut (H x)) (he : e = x ∨ H e = some (.own x)) (k : ∀ b u, b ≠ e → h.get? b = some u → h'.get? b = some u) (heo : ∃ u, h'.get? e = some u) : Un fs ex H (upd H x o) h h' := by
  have hx : ∀ b, H b = none → b ≠ x := fun b n z => by subst z; rw [n] at mu; exact mu
  have hb : ∀ b, H b = none → b ≠ e := fun b n z => by
    subst z
    rcases he with r | r
    · exact hx b n r
    · rw [n] at r; cases r
  have hm : ∀ b u, H b = some u → ¬ Mut (some u) → b ≠ x := fun b u q nm z => by subst z; rw [q] at mu; exact nm mu
  refine ⟨fun b u q n _ _ => k b u (hb b n) q, fun b u q n _ _ => ⟨u.slots, k b u (hb b n) q⟩, fun b u q n _ => by rw [upd_ne (hx b n)]; exact n, fun b u q _ => ?_,
    fun b xs q => by rw [upd_ne (hm b _ q fun z => z)]; exact q, fun b u xs q => by rw [upd_ne (hm b _ q fun z => z)]; exact q, fun b ps q => ⟨#[], by rw [upd_ne (hm b _ q fun z => z), q]; simp⟩⟩
  by_cases hbe : b = e
  · subst hbe; exact heo
  · exact ⟨u, k b u hbe q⟩
end

/-! ### the heap without what is tracked -/
def trk (h : Heap) (H : Hp) : List Addr := (List.range h.objs.size).filter fun a => (H a).isSome
def hidT (h : Heap) (H : Hp) : Heap := PySem.W.hideAll h (trk h H)
theorem hidT_size (h : Heap) (H : Hp) : (hidT h H).objs.size = h.objs.size := PySem.W.hideAll_size _ _
theorem hidT_get {h : Heap} {H : Hp} {b : Addr} {o : Obj} (e : h.get? b = some o) (n : H b = none) : (hidT h H).get? b = some o :=
  PySem.W.hideAll_get _ e fun hm => by
    have q : (H b).isSome = true := (List.mem_filter.mp hm).2
    rw [n] at q; simp at q
theorem of_hidT {h : Heap} {H : Hp} {b : Addr} {o : Obj} (e : (hidT h H).get? b = some o) : h.get? b = some o ∧ H b = none := by
  have e' : h.get? b = some o := PySem.W.of_hideAll (trk h H) e
  refine ⟨e', ?_⟩
  cases q : H b with
  | none => rfl
  | some x =>
    have hm : b ∈ trk h H := List.mem_filter.mpr ⟨List.mem_range.mpr (Heap.lt_size e'), by simp [q]⟩
    have z : (hidT h H).get? b = none := PySem.W.hideAll_none (trk h H) hm
    rw [z] at e; cases e

/-! ### OpenK's ledger, filled with every new object but one -/
end L2

namespace L2
open PySem PySem.Spec PyProof.Rows

/-- the module's facts, over the base: the heap at the law's entry without what is tracked there -/
structure Mod (K : PySem.W.Frag) (mg : Str → Option Value) (base : Heap) : Prop where
  kin : K.In base
  glob : base.Ns mainGlobals mg
  blt : ∃ mb, base.Ns builtinsNs mb ∧ ∀ x : Str, x ≠ "__name__" → mb x = bootBuiltins x
  nolimit : base.NoLimit

/-- the context: a def's body (or a comprehension's block) running. base: fixed through the whole law; s₀, H₀: the entry; outer: the frames whose slots others may change (a def's callers); stack: all frames that run;
   ex: iterators that were made ahead of the entry and are walked here (a comprehension's); fn: the names whose cells were made at the entry (a def: all; a comprehension's block: its own); calm: not within an except suite; pn: pins that every state bears; xe: what is wanted of an exception that leaves the code -/
structure Cx where
  prog : Program
  w : World
  K : PySem.W.Frag
  mg : Str → Option Value
  base : Heap
  A : Around
  N : List Str
  s_0 : Shared
  H_0 : Hp
  env : Env
  outer : List Env
  stack : List Env
  ex : List Addr
  fn : Str → Bool
  calm : Bool
  pn : List (Addr × Obj)
  xe : Value → Shared → Prop
/-- the callers' frames -/
def frs (l : List Env) : List Addr := l.filterMap (·.frame)
abbrev Cx.fs (X : Cx) : List Addr := frs X.outer

def Vis (sc : Scope) (x : Str) : Prop := sc.names.lookup x = some .local ∨ sc.names.lookup x = some .cell ∨ sc.names.lookup x = some .free
def Loc (sc : Scope) (x : Str) : Prop := sc.names.lookup x = some .local ∨ sc.names.lookup x = some .cell
def Look (env : Env) (h : Heap) (m : Str → Option Value) (x : Str) (u : Value) : Prop :=
  (env.kindOf x = some .local ∧ m x = some u) ∨ ((env.kindOf x = some .cell ∨ env.kindOf x = some .free) ∧ ∃ c, env.cells.lookup x = some c ∧ h.IsCell c (some u))

structure Cx.Ok (X : Cx) : Prop where
  mod : Mod X.K X.mg X.base
  kind : X.env.scope.kind = .function
  glob : X.env.globals = mainGlobals
  blt : X.env.builtins = builtinsNs
  above : X.s_0.heap.objs.size ≤ X.env.locals
  inj : ∀ x y c, X.env.cells.lookup x = some c → X.env.cells.lookup y = some c → x = y
  has : ∀ x, (X.env.kindOf x = some .cell ∨ X.env.kindOf x = some .free) → ∃ c, X.env.cells.lookup x = some c
  cab : ∀ x c, X.fn x = true → X.env.cells.lookup x = some c → X.s_0.heap.objs.size ≤ c
  hd : X.calm = true → X.A.handled = none
  frames : X.A.frames = some X.stack
  stk : X.stack = X.outer ∨ (X.stack = X.env :: X.outer ∧ X.env.frame = some X.env.locals)
  exf : ∀ b ∈ X.ex, b ≠ X.env.locals ∧ ∀ x c, X.env.cells.lookup x = some c → c ≠ b
  bs : ∀ b o, X.base.get? b = some o → X.s_0.heap.get? b = some o ∧ X.H_0 b = none
  bsz : X.base.objs.size ≤ X.s_0.heap.objs.size
  noex : ∀ b o, X.base.get? b = some o → b ∉ X.ex
  exfs : ∀ b ∈ X.ex, b ∉ X.fs
  funs : X.s_0.heap.FunFrames X.base X.outer
  frf : ∀ b ∈ X.fs, X.H_0 b = none

structure Inv (X : Cx) (pins : List (Addr × Obj)) (σ : List (Option V)) (H : Hp) (s : Shared) : Prop where
  ok : X.Ok
  os : s.os = X.s_0.os
  bare : AllBare s.gens
  base : Un X.fs X.ex X.H_0 H X.s_0.heap s.heap
  loc : ∃ m, s.heap.Ns X.env.locals m ∧ ∀ (i : Nat) (x : Str) (v : V), X.N[i]? = some x → σ[i]? = some (some v) → Vis X.env.scope x → ∃ u, RelV v u ∧ Look X.env s.heap m x u
  cell : ∀ x c, X.env.cells.lookup x = some c → ∃ v, s.heap.IsCell c v
  free : H X.env.locals = none
  freeC : ∀ x c, X.env.cells.lookup x = some c → H c = none
  pin : ∀ p ∈ X.pn ++ pins, s.heap.get? p.1 = some p.2 ∧ H p.1 = none ∧ p.1 ≠ X.env.locals ∧ p.1 ∉ X.fs ∧ ∀ v, p.2.data ≠ .cell v
  hok : HOk X.prog X.w H s.heap
  len : σ.length = X.N.length

section
variable {X : Cx} {pins : List (Addr × Obj)} {σ : List (Option V)} {H H' : Hp} {s : Shared} {h' : Heap}

theorem Cx.Ok.nofr (ok : X.Ok) {b : Addr} {o : Obj} (e : X.base.get? b = some o) : b ∉ X.fs := fun hb => by
  have := (ok.funs.mem hb).1
  rw [e] at this; cases this
theorem Inv.bs (I : Inv X pins σ H s) : ∀ b o, X.base.get? b = some o → s.heap.get? b = some o ∧ H b = none := fun b o e =>
  ⟨I.base.keep b o (I.ok.bs b o e).1 (I.ok.bs b o e).2 (I.ok.nofr e) (I.ok.noex b o e), I.base.free b o (I.ok.bs b o e).1 (I.ok.bs b o e).2 (I.ok.noex b o e)⟩
theorem Inv.bk (I : Inv X pins σ H s) : ∀ b o, X.base.get? b = some o → s.heap.get? b = some o := fun b o e => (I.bs b o e).1
theorem Inv.mod (I : Inv X pins σ H s) : Mod X.K X.mg X.base := I.ok.mod
theorem Inv.kIn (I : Inv X pins σ H s) : X.K.In s.heap := I.ok.mod.kin.keeps I.bk
theorem Inv.lt (I : Inv X pins σ H s) : X.env.locals < s.heap.objs.size := let ⟨_, hn, _⟩ := I.loc; hn.lt
theorem Inv.sz (I : Inv X pins σ H s) : X.s_0.heap.objs.size ≤ s.heap.objs.size := Nat.le_trans I.ok.above (Nat.le_of_lt I.lt)
theorem Inv.nofs (I : Inv X pins σ H s) {a : Addr} (h : s.heap.objs.size ≤ a) : a ∉ X.fs := fun hb => by
  obtain ⟨_, o, ho, _⟩ := I.ok.funs.mem hb
  exact absurd (Nat.lt_of_lt_of_le (Heap.lt_size ho) (Nat.le_trans I.sz h)) (Nat.lt_irrefl _)
theorem Inv.cne (I : Inv X pins σ H s) : ∀ x c, X.env.cells.lookup x = some c → c ≠ X.env.locals := fun x c e z => by
  obtain ⟨v, o, ho, hd⟩ := I.cell x c e
  obtain ⟨m, ⟨o', es, ep, ho', hd', _⟩, _⟩ := I.loc
  rw [z, ho'] at ho; cases ho; rw [hd'] at hd; cases hd
theorem Inv.funs (I : Inv X pins σ H s) : s.heap.FunFrames X.base X.outer := by
  have all : ∀ (l : List Env), (∀ b ∈ frs l, b ∈ X.fs) → X.s_0.heap.FunFrames X.base l → s.heap.FunFrames X.base l := by
    intro l
    induction l with
    | nil => intro _ _; trivial
    | cons env r ih =>
      intro hs hl
      obtain ⟨hk, ⟨L, o, hf, hn, ho, hd⟩, hr⟩ := hl
      have hL : L ∈ X.fs := hs L (by unfold frs; rw [List.filterMap_cons, hf]; exact List.mem_cons_self)
      obtain ⟨sl, e⟩ := I.base.slot L o ho (I.ok.frf L hL) hL fun z => I.ok.exfs L z hL
      exact ⟨hk, ⟨L, _, hf, hn, e, hd⟩, ih (fun b hb => hs b (by unfold frs; rw [List.filterMap_cons, hf]; exact List.mem_cons_of_mem _ hb)) hr⟩
  exact all X.outer (fun _ hb => hb) I.ok.funs

/-- the frames that run, for a call -/
theorem Inv.stack (I : Inv X pins σ H s) : s.heap.FunFrames X.base X.stack := by
  rcases I.ok.stk with e | ⟨e, hf⟩
  · rw [e]; exact I.funs
  · rw [e]
    obtain ⟨m, hn, _⟩ := I.loc
    refine .cons (by rw [I.ok.kind]; decide) hf hn ?_ I.funs
    exact Heap.get?_none_of_le (Nat.le_trans I.ok.bsz I.ok.above)
theorem Inv.stkSub (I : Inv X pins σ H s) : ∀ b ∈ frs X.stack, b ∈ X.env.locals :: X.fs := fun b hb => by
  rcases I.ok.stk with e | ⟨e, hf⟩
  · rw [e] at hb; exact List.mem_cons_of_mem _ hb
  · rw [e] at hb
    unfold frs at hb
    rw [List.filterMap_cons, hf] at hb
    exact hb
theorem Inv.stkFree (I : Inv X pins σ H s) : ∀ b ∈ frs X.stack, H b = none := fun b hb => by
  rcases List.mem_cons.mp (I.stkSub b hb) with e | hb
  · rw [e]; exact I.free
  · obtain ⟨_, o, ho, _⟩ := I.ok.funs.mem hb
    exact I.base.free b o ho (I.ok.frf b hb) fun z => I.ok.exfs b z hb

/-- THE STEP: the untracked objects but the frame and the records at ch are kept (the callers' frames up to slots), the frame's map is kept, the new abstract heap is held -/
theorem Inv.step {g' : Array GenState} {t' : Nat} {d' : Drawn} {ch : List Addr} (I : Inv X pins σ H s)
    (hch : ∀ b ∈ ch, (b ∈ X.ex ∨ X.s_0.heap.objs.size ≤ b) ∧ b ≠ X.env.locals ∧ (∀ x c, X.env.cells.lookup x = some c → c ≠ b) ∧ ∀ p ∈ X.pn ++ pins, p.1 ≠ b)
    (keep : ∀ b o, b ≠ X.env.locals → b ∉ X.fs → b ∉ ch → s.heap.get? b = some o → H b = none → h'.get? b = some o)
    (slot : ∀ b o, b ≠ X.env.locals → b ∈ X.fs → b ∉ ch → s.heap.get? b = some o → H b = none → ∃ sl, h'.get? b = some { o with slots := sl }) (free : ∀ b o, b ∉ ch → s.heap.get? b = some o → H b = none → H' b = none)
    (there : ∀ b o, b ∉ ch → s.heap.get? b = some o → ∃ o', h'.get? b = some o')
    (tups : ∀ b xs, H b = some (.tup xs) → H' b = some (.tup xs)) (frzs : ∀ b o u, H b = some (.frz o u) → H' b = some (.frz o u)) (tbls : ∀ b ps, H b = some (.tbl ps) → ∃ more, H' b = some (.tbl (ps ++ more)))
    (ns : ∀ m, s.heap.Ns X.env.locals m → h'.Ns X.env.locals m) (hok : HOk X.prog X.w H' h') (hg : AllBare g') :
    Inv X pins σ H' { s with heap := h', gens := g', drawn := d', toks := t' } := by
  have neL : ∀ b o, X.s_0.heap.get? b = some o → b ≠ X.env.locals := fun b o e => Nat.ne_of_lt (Nat.lt_of_lt_of_le (Heap.lt_size e) I.ok.above)
  have neC : ∀ b o, X.s_0.heap.get? b = some o → b ∉ X.ex → b ∉ ch := fun b o e hx hb => by
    rcases (hch b hb).1 with z | z
    · exact hx z
    · exact absurd (Nat.lt_of_lt_of_le (Heap.lt_size e) z) (Nat.lt_irrefl _)
  have cellK : ∀ x c, X.env.cells.lookup x = some c → ∀ v, s.heap.IsCell c v → h'.IsCell c v := fun x c e v ⟨o, ho, hd⟩ => by
    have nch : c ∉ ch := fun z => (hch c z).2.2.1 x c e rfl
    by_cases hc : c ∈ X.fs
    · obtain ⟨sl, q⟩ := slot c o (I.cne x c e) hc nch ho (I.freeC x c e)
      exact ⟨_, q, hd⟩
    · exact ⟨o, keep c o (I.cne x c e) hc nch ho (I.freeC x c e), hd⟩
  refine ⟨I.ok, I.os, hg, ⟨fun b o e n hb hx => ?_, fun b o e n hb hx => ?_, fun b o e n hx => ?_, fun b o e hx => ?_, fun b xs e => tups b xs (I.base.tups b xs e), fun b o xs e => frzs b o xs (I.base.frzs b o xs e), fun b ps e => ?_⟩, ?_, fun x c e => ?_, ?_, fun x c e => ?_, fun p hp => ?_, hok, I.len⟩
  · exact keep b o (neL b o e) hb (neC b o e hx) (I.base.keep b o e n hb hx) (I.base.free b o e n hx)
  · obtain ⟨sl, e1⟩ := I.base.slot b o e n hb hx
    obtain ⟨sl', e2⟩ := slot b _ (neL b o e) hb (neC b o e hx) e1 (I.base.free b o e n hx)
    exact ⟨sl', e2⟩
  · obtain ⟨o', e1⟩ := I.base.there b o e hx
    exact free b o' (neC b o e hx) e1 (I.base.free b o e n hx)
  · obtain ⟨o', e1⟩ := I.base.there b o e hx
    exact there b o' (neC b o e hx) e1
  · obtain ⟨m1, e1⟩ := I.base.tbls b ps e
    obtain ⟨m2, e2⟩ := tbls b _ e1
    exact ⟨m1 ++ m2, by rw [e2, Array.append_assoc]⟩
  · obtain ⟨m, hn, hl⟩ := I.loc
    refine ⟨m, ns m hn, fun i x v e1 e2 e3 => ?_⟩
    obtain ⟨u, r, l⟩ := hl i x v e1 e2 e3
    refine ⟨u, r, ?_⟩
    rcases l with l | ⟨k, c, e, z⟩
    · exact .inl l
    · exact .inr ⟨k, c, e, cellK x c e _ z⟩
  · obtain ⟨v, z⟩ := I.cell x c e
    exact ⟨v, cellK x c e v z⟩
  · obtain ⟨m, ⟨o, _, _, ho, _⟩, _⟩ := I.loc
    exact free _ o (fun z => (hch _ z).2.1 rfl) ho I.free
  · obtain ⟨v, o, ho, hd⟩ := I.cell x c e
    exact free c o (fun z => (hch c z).2.2.1 x c e rfl) ho (I.freeC x c e)
  · obtain ⟨e, n, ne, nf, d⟩ := I.pin p hp
    have nch : p.1 ∉ ch := fun z => (hch p.1 z).2.2.2 p hp rfl
    exact ⟨keep p.1 p.2 ne nf nch e n, free p.1 p.2 nch e n, ne, nf, d⟩
/-- .. where the frame's own object is kept too -/
theorem Inv.un {t' : Nat} (I : Inv X pins σ H s) (u : Un X.fs [] H H' s.heap h') (hok : HOk X.prog X.w H' h') : Inv X pins σ H' { s with heap := h', toks := t' } := by
  obtain ⟨m, ⟨o, es, ep, ho, r⟩, _⟩ := id I.loc
  obtain ⟨sl, hL⟩ := u.any ho I.free (by simp)
  exact I.step (g' := s.gens) (d' := s.drawn) (ch := []) (fun _ z => nomatch z) (fun b o _ hb _ e n => u.keep b o e n hb (by simp)) (fun b o _ hb _ e n => u.slot b o e n hb (by simp)) (fun b o _ e n => u.free b o e n (by simp)) (fun b o _ e => u.there b o e (by simp)) u.tups u.frzs u.tbls (fun m' hm => by
    obtain ⟨o', es', ep', ho', r'⟩ := hm
    rw [ho] at ho'; cases ho'
    exact ⟨_, es', ep', hL, r'⟩) hok I.bare
/-- behind a call (or a comprehension's block): the slots of this frame may have changed too, the records at ch may have turned -/
theorem Inv.call {g' : Array GenState} {t' : Nat} {d' : Drawn} {ch : List Addr} (I : Inv X pins σ H s) (u : Un (frs X.stack) ch H H' s.heap h') (hok : HOk X.prog X.w H' h') (hg : AllBare g')
    (hch : ∀ b ∈ ch, (b ∈ X.ex ∨ X.s_0.heap.objs.size ≤ b) ∧ b ≠ X.env.locals ∧ (∀ x c, X.env.cells.lookup x = some c → c ≠ b) ∧ ∀ p ∈ X.pn ++ pins, p.1 ≠ b) :
    Inv X pins σ H' { s with heap := h', gens := g', drawn := d', toks := t' } := by
  obtain ⟨m, ⟨o, es, ep, ho, r⟩, _⟩ := id I.loc
  obtain ⟨sl, hL⟩ := u.any ho I.free fun z => (hch _ z).2.1 rfl
  exact I.step (ch := ch) hch (fun b o hL hb hc e n => u.keep b o e n (fun z => (List.mem_cons.mp (I.stkSub b z)).elim hL hb) hc) (fun b o _ _ hc e n => u.any e n hc) (fun b o hc e n => u.free b o e n hc) (fun b o hc e => u.there b o e hc) u.tups u.frzs u.tbls (fun m' hm => by
    obtain ⟨o', es', ep', ho', r'⟩ := hm
    rw [ho] at ho'; cases ho'
    exact ⟨_, es', ep', hL, r'⟩) hok hg
/-- an untracked record of ours (an iterator) has turned -/
theorem Inv.turned {t' : Nat} {it : Addr} (I : Inv X pins σ H s) (k : ∀ b o, b ≠ it → s.heap.get? b = some o → h'.get? b = some o) (hn : H it = none) (hL : it ≠ X.env.locals)
    (h1 : it ∈ X.ex ∨ X.s_0.heap.objs.size ≤ it) (h2 : ∀ x c, X.env.cells.lookup x = some c → c ≠ it) (h3 : ∀ p ∈ X.pn ++ pins, p.1 ≠ it) : Inv X pins σ H { s with heap := h', toks := t' } := by
  have nit : ∀ b u, H b = some u → b ≠ it := fun b u e z => by rw [z, hn] at e; cases e
  refine I.step (g' := s.gens) (d' := s.drawn) (ch := [it]) (fun b hb => ?_) (fun b o _ _ hc e _ => k b o (fun z => hc (by simp [z])) e) (fun b o _ _ hc e _ => ⟨o.slots, k b o (fun z => hc (by simp [z])) e⟩) (fun _ _ _ _ n => n)
    (fun b o hc e => ⟨o, k b o (fun z => hc (by simp [z])) e⟩) (fun _ _ e => e) (fun _ _ _ e => e) (fun b ps e => ⟨#[], by rw [e]; simp⟩) (fun m hm => ?_) (fun b u e => ?_) I.bare
  · have e : b = it := by simpa using hb
    subst e
    exact ⟨h1, hL, h2, h3⟩
  · obtain ⟨o, es, ep, ho, r⟩ := hm
    exact ⟨o, es, ep, k _ o (Ne.symm hL) ho, r⟩
  · refine (I.hok b u e).stay (fun c v hc q => k c v ?_ q) (fun _ q => q) fun _ _ q => q
    rcases hc with z | z
    · rw [z]; exact nit b u e
    · exact nit c _ z
theorem Inv.tok (I : Inv X pins σ H s) (t : Nat) : Inv X pins σ H { s with toks := t } := I.un (h' := s.heap) (t' := t) Un.refl I.hok
/-- all objects kept -/
theorem Inv.kept {t' : Nat} (I : Inv X pins σ H s) (k : ∀ b u, s.heap.get? b = some u → h'.get? b = some u) : Inv X pins σ H { s with heap := h', toks := t' } := I.un (Un.kept k) (I.hok.kept k)
/-- a new object laid and tracked -/
theorem Inv.laid {a : Addr} {o : HO} {t' : Nat} (I : Inv X pins σ H s) (k : ∀ b u, s.heap.get? b = some u → h'.get? b = some u) (hp : s.heap.objs.size ≤ a) (new : ObjOk X.prog X.w (upd H a o) h' a o) :
    Inv X pins σ (upd H a o) { s with heap := h', toks := t' } := I.un (Un.laid k hp (I.hok.fresh hp)) (I.hok.laid k hp new)
/-- an object written -/
theorem Inv.write {x e : Addr} {o : HO} {t' : Nat} (I : Inv X pins σ H s) (mu : Mut (H x)) (he : e = x ∨ H e = some (.own x)) (k : ∀ b u, b ≠ e → s.heap.get? b = some u → h'.get? b = some u) (heo : ∃ u, h'.get? e = some u)
    (new : ObjOk X.prog X.w (upd H x o) h' x o) : Inv X pins σ (upd H x o) { s with heap := h', toks := t' } := I.un (Un.write mu he k heo) (I.hok.write mu he k heo new)
theorem Inv.pins_of {pins' : List (Addr × Obj)} (I : Inv X pins σ H s) (h : ∀ p ∈ pins', s.heap.get? p.1 = some p.2 ∧ H p.1 = none ∧ p.1 ≠ X.env.locals ∧ p.1 ∉ X.fs ∧ ∀ v, p.2.data ≠ .cell v) : Inv X pins' σ H s :=
  ⟨I.ok, I.os, I.bare, I.base, I.loc, I.cell, I.free, I.freeC, fun p hp => (List.mem_append.mp hp).elim (fun z => I.pin p (List.mem_append_left _ z)) (h p), I.hok, I.len⟩

theorem nodup_ix {N : List Str} (hN : N.Nodup) {i j : Nat} {x : Str} (a : N[i]? = some x) (b : N[j]? = some x) : i = j := by
  obtain ⟨h1, e1⟩ := List.getElem?_eq_some_iff.mp a
  obtain ⟨h2, e2⟩ := List.getElem?_eq_some_iff.mp b
  exact (List.getElem_inj hN).mp (e1.trans e2.symm)

/-- a name is stored; what changed -/
theorem store_ok2 {M : Model} {A : Around} {E : Value → Shared → Prop} {i : Nat} {x : Str} {v : V} {u : Value} {Q : Unit → Shared → Prop} (I : Inv X pins σ H s) (hN : X.N.Nodup) (hi : X.N[i]? = some x) (hx : Loc X.env.scope x) (r : RelV v u)
    (h : ∀ s', Inv X pins (σ.set i (some v)) H s' → (∃ a, Heap.SameBut a s.heap s'.heap ∧ (a = X.env.locals ∨ X.env.cells.lookup x = some a)) → Q () s') (hf : X.fn x = true ∨ X.env.scope.names.lookup x = some .local := by first | exact .inl rfl | exact .inr rfl | assumption) : wpAny M A (storeName X.env x u) Q E s := by
  obtain ⟨m, hn, hl⟩ := id I.loc
  have hcls : (X.env.scope.kind == .class || (X.env.scope.kind == .module && X.env.locals != X.env.globals)) = false := by rw [I.ok.kind]; rfl
  have hiσ : i < σ.length := by rw [I.len]; exact (List.getElem?_eq_some_iff.mp hi).1
  have cne := I.cne
  have tracked : ∀ {a : Addr} {h' : Heap}, (∃ o, s.heap.get? a = some o ∧ H a = none) → Heap.SameBut a s.heap h' → HOk X.prog X.w H h' := fun {a h'} ha hs b ob e => by
    obtain ⟨_, _, hfree⟩ := ha
    refine (I.hok b ob e).stay (fun c w' hc q => (hs.2 c ?_).trans q) (fun _ q => q) fun _ _ q => q
    rintro rfl
    rcases hc with rfl | hc
    · rw [hfree] at e; cases e
    · rw [hfree] at hc; cases hc
  rcases hx with hk | hk
  · refine wpAny_storeName_local hk hn (fun h' hn' hs => ?_) hcls
    obtain ⟨oL, _, _, hoL, _⟩ := id hn
    refine h _ ⟨I.ok, I.os, I.bare, ⟨fun b o e n hb hx => ?_, fun b o e n hb hx => ?_, I.base.free, fun b o e hx => ?_, I.base.tups, I.base.frzs, I.base.tbls⟩, ⟨_, hn', fun j y v' e1 e2 e3 => ?_⟩, fun y c e => ?_, I.free, I.freeC, fun p hp => ?_, tracked ⟨oL, hoL, I.free⟩ hs, by simpa using I.len⟩ ⟨_, hs, .inl rfl⟩
    · exact (hs.2 b (Nat.ne_of_lt (Nat.lt_of_lt_of_le (Heap.lt_size e) I.ok.above))).trans (I.base.keep b o e n hb hx)
    · obtain ⟨sl, e1⟩ := I.base.slot b o e n hb hx
      exact ⟨sl, (hs.2 b (Nat.ne_of_lt (Nat.lt_of_lt_of_le (Heap.lt_size e) I.ok.above))).trans e1⟩
    · obtain ⟨o', e1⟩ := I.base.there b o e hx
      exact ⟨o', (hs.2 b (Nat.ne_of_lt (Nat.lt_of_lt_of_le (Heap.lt_size e) I.ok.above))).trans e1⟩
    · by_cases hj : j = i
      · subst hj
        rw [hi] at e1; cases e1
        rw [List.getElem?_set_self hiσ] at e2
        cases e2
        exact ⟨u, r, .inl ⟨hk, by simp⟩⟩
      · rw [List.getElem?_set_ne (Ne.symm hj)] at e2
        obtain ⟨u', r', q⟩ := hl j y v' e1 e2 e3
        refine ⟨u', r', ?_⟩
        rcases q with ⟨k, e⟩ | ⟨k, c, e, z⟩
        · refine .inl ⟨k, ?_⟩
          have : y ≠ x := fun e => hj (nodup_ix hN e1 (e ▸ hi))
          simp [this, e]
        · exact .inr ⟨k, c, e, z.sameBut hs (cne y c e)⟩
    · obtain ⟨w', z⟩ := I.cell y c e
      exact ⟨w', z.sameBut hs (cne y c e)⟩
    · obtain ⟨e, n, ne, nf, d⟩ := I.pin p hp
      exact ⟨(hs.2 p.1 ne).trans e, n, ne, nf, d⟩
  · have hfn : X.fn x = true := by
      rcases hf with z | z
      · exact z
      · rw [z] at hk; cases hk
    obtain ⟨c, hc⟩ := I.ok.has x (.inl hk)
    obtain ⟨w', z⟩ := I.cell x c hc
    refine wpAny_storeName_cell I.ok.kind hk hc z (fun h' hc' hs => ?_)
    obtain ⟨oc, hoc, hocd⟩ := id z
    refine h { s with heap := h' } ⟨I.ok, I.os, I.bare, ⟨fun b o e n hb hx => ?_, fun b o e n hb hx => ?_, I.base.free, fun b o e hx => ?_, I.base.tups, I.base.frzs, I.base.tbls⟩, ⟨m, hn.sameBut hs (Ne.symm (cne x c hc)), fun j y v' e1 e2 e3 => ?_⟩, fun y c' e => ?_, I.free, I.freeC, fun p hp => ?_, tracked ⟨oc, hoc, I.freeC x c hc⟩ hs, by simpa using I.len⟩ ⟨c, hs, .inr hc⟩
    · exact (hs.2 b (Nat.ne_of_lt (Nat.lt_of_lt_of_le (Heap.lt_size e) (I.ok.cab x c hfn hc)))).trans (I.base.keep b o e n hb hx)
    · obtain ⟨sl, e1⟩ := I.base.slot b o e n hb hx
      exact ⟨sl, (hs.2 b (Nat.ne_of_lt (Nat.lt_of_lt_of_le (Heap.lt_size e) (I.ok.cab x c hfn hc)))).trans e1⟩
    · obtain ⟨o', e1⟩ := I.base.there b o e hx
      exact ⟨o', (hs.2 b (Nat.ne_of_lt (Nat.lt_of_lt_of_le (Heap.lt_size e) (I.ok.cab x c hfn hc)))).trans e1⟩
    · by_cases hj : j = i
      · subst hj
        rw [hi] at e1; cases e1
        rw [List.getElem?_set_self hiσ] at e2
        cases e2
        exact ⟨u, r, .inr ⟨.inl hk, c, hc, hc'⟩⟩
      · rw [List.getElem?_set_ne (Ne.symm hj)] at e2
        obtain ⟨u', r', q⟩ := hl j y v' e1 e2 e3
        refine ⟨u', r', ?_⟩
        rcases q with q | ⟨k, c', e, z'⟩
        · exact .inl q
        · refine .inr ⟨k, c', e, z'.sameBut hs ?_⟩
          rintro rfl
          exact hj (nodup_ix hN e1 (I.ok.inj _ _ _ e hc ▸ hi))
    · by_cases hcc : c' = c
      · subst hcc; exact ⟨_, hc'⟩
      · obtain ⟨w2, z2⟩ := I.cell y c' e
        exact ⟨w2, z2.sameBut hs hcc⟩
    · obtain ⟨e, n, ne, nf, d⟩ := I.pin p hp
      refine ⟨(hs.2 p.1 ?_).trans e, n, ne, nf, d⟩
      intro q
      rw [q, hoc] at e
      have q' : oc = p.2 := Option.some.inj e
      exact d w' (by rw [← q']; exact hocd)
theorem store_ok {M : Model} {A : Around} {E : Value → Shared → Prop} {i : Nat} {x : Str} {v : V} {u : Value} {Q : Unit → Shared → Prop} (I : Inv X pins σ H s) (hN : X.N.Nodup) (hi : X.N[i]? = some x) (hx : Loc X.env.scope x) (r : RelV v u)
    (h : ∀ s', Inv X pins (σ.set i (some v)) H s' → Q () s') (hf : X.fn x = true ∨ X.env.scope.names.lookup x = some .local := by first | exact .inl rfl | exact .inr rfl | assumption) : wpAny M A (storeName X.env x u) Q E s :=
  store_ok2 I hN hi hx r (fun s' I' _ => h s' I') hf
end

/-! ### the judgements -/
/-- an exception: its class, its own dict's address (where it has one), the abstract heap behind it -/
abbrev XK := Value → Option Addr → Hp → Prop
abbrev St := List (Option V)
abbrev VK := V → Hp → Prop
/-- an expression's reading; a test's; an argument list's -/
abbrev TE := St → Hp → VK → Prop
abbrev TT := St → Hp → (Bool → Hp → Prop) → Prop
abbrev TA := St → Hp → (List V → Hp → Prop) → Prop
/-- what is wanted behind a statement -/
structure Ends where
  nx : St → Hp → Prop
  rt : VK
  bk : St → Hp → Prop := fun _ _ => False
  ct : St → Hp → Prop := fun _ _ => False
abbrev TS := Ends → St → Hp → Prop

def EP (X : Cx) (pins : List (Addr × Obj)) (σ : St) (Q : VK) (u : Value) (s' : Shared) : Prop := ∃ v H', Inv X pins σ H' s' ∧ RelV v u ∧ Q v H'
def TP (X : Cx) (pins : List (Addr × Obj)) (σ : St) (Q : Bool → Hp → Prop) (b : Bool) (s' : Shared) : Prop := ∃ H', Inv X pins σ H' s' ∧ Q b H'
def AP (X : Cx) (pins : List (Addr × Obj)) (σ : St) (Q : List V → Hp → Prop) (us : List Value) (s' : Shared) : Prop := ∃ vs H', Inv X pins σ H' s' ∧ Vals vs us ∧ Q vs H'
def SP (X : Cx) (pins : List (Addr × Obj)) (D : Ends) (f : Flow) (s' : Shared) : Prop :=
  match f with
  | .next => ∃ σ' H', Inv X pins σ' H' s' ∧ D.nx σ' H'
  | .brk => ∃ σ' H', Inv X pins σ' H' s' ∧ D.bk σ' H'
  | .cont => ∃ σ' H', Inv X pins σ' H' s' ∧ D.ct σ' H'
  | .ret u => ∃ v σ' H', Inv X pins σ' H' s' ∧ RelV v u ∧ D.rt v H'

def PE (X : Cx) (e : Expr) (t : TE) : Prop :=
  ∀ (pins : List (Addr × Obj)) (s : Shared) (σ : St) (H : Hp) (Q : VK), Inv X pins σ H s → t σ H Q → wpAny (model X.prog X.w) X.A (eval e X.env) (EP X pins σ Q) X.xe s
def PT (X : Cx) (e : Expr) (t : TT) : Prop :=
  ∀ (pins : List (Addr × Obj)) (s : Shared) (σ : St) (H : Hp) (Q : Bool → Hp → Prop), Inv X pins σ H s → t σ H Q → wpAny (model X.prog X.w) X.A (isTrue e X.env (eval e X.env)) (TP X pins σ Q) X.xe s
/-- a test whatever its 'whole' is (and, or) -/
def PW (X : Cx) (e : Expr) (t : TT) : Prop :=
  ∀ (whole : Sem Value) (pins : List (Addr × Obj)) (s : Shared) (σ : St) (H : Hp) (Q : Bool → Hp → Prop), Inv X pins σ H s → t σ H Q → wpAny (model X.prog X.w) X.A (isTrue e X.env whole) (TP X pins σ Q) X.xe s
theorem PW.pt {X : Cx} {e : Expr} {t : TT} (h : PW X e t) : PT X e t := h _
/-- an argument list (no star), from the left -/
def PA (X : Cx) (es : List Expr) (t : TA) : Prop :=
  ∀ (pos : Pos) (pins : List (Addr × Obj)) (s : Shared) (σ : St) (H : Hp) (Q : List V → Hp → Prop), Inv X pins σ H s → t σ H Q → wpAny (model X.prog X.w) X.A (spliced (backTo pos (starEach es X.env))) (AP X pins σ Q) X.xe s
def PS (X : Cx) (st : Stmt) (t : TS) : Prop :=
  ∀ (pins : List (Addr × Obj)) (s : Shared) (σ : St) (H : Hp) (D : Ends), Inv X pins σ H s → t D σ H → wpAny (model X.prog X.w) X.A (exec st X.env) (SP X pins D) X.xe s
def PSs (X : Cx) (st : List Stmt) (t : TS) : Prop :=
  ∀ (pins : List (Addr × Obj)) (s : Shared) (σ : St) (H : Hp) (D : Ends), Inv X pins σ H s → t D σ H → wpAny (model X.prog X.w) X.A (execs st X.env) (SP X pins D) X.xe s
/-- weaken the end -/
theorem thn {α : Type} {t : Sem α} {Q Q' : α → Shared → Prop} {M : Model} {A : Around} {E : Value → Shared → Prop} {s : Shared} (h : wpAny M A t Q E s) (hQ : ∀ a s, Q a s → Q' a s) : wpAny M A t Q' E s := wpAny_mono h hQ fun _ _ x => x
end L2

namespace L2
open PySem PySem.Spec PyProof.Rows
section
variable {X : Cx}

/-! ### names and constants -/
def tVar (i : Nat) : TE := fun σ H Q => ∃ v, σ[i]? = some (some v) ∧ Q v H
def tC (v : V) : TE := fun _ H Q => Q v H
theorem pe_var {i : Nat} {x : Str} {pos : Pos} (hN : X.N[i]? = some x) (hv : Vis X.env.scope x) (hd : (x == ("__debug__" : Str)) = false := by decide) (hcd : (x == ("__classdict__" : Str)) = false := by decide) : PE X (.Name x pos) (tVar i) := by
  intro pins s σ H Q I h
  obtain ⟨v, e, h⟩ := h
  obtain ⟨m, hn, hl⟩ := I.loc
  obtain ⟨u, r, l⟩ := hl i x v hN e hv
  have fin : EP X pins σ Q u s := ⟨v, H, I, r, h⟩
  rcases l with ⟨hk, hm⟩ | ⟨hk, c, hc, hcell⟩
  · exact wpAny_Name (wpAny_loadName_local I.ok.kind hk hn hm fin) hd
  · rcases hk with hk | hk
    · exact wpAny_Name (wpAny_loadName_cell I.ok.kind hk hc hcell fin) hd
    · exact wpAny_Name (wpAny_loadName_free I.ok.kind hk hc hcell fin hcd) hd
theorem pe_int {i j pos} : PE X (.Constant (.int i) j pos) (tC (.int i)) := fun _ _ _ H _ I h => wpAny_Constant_int ⟨.int i, H, I.tok _, ⟨_, rfl⟩, h⟩
theorem pe_bl {b j pos} : PE X (.Constant (.bool b) j pos) (tC (.bl b)) := fun _ _ _ H _ I h => Constant_bool ⟨.bl b, H, I, rfl, h⟩
theorem pe_non {j pos} : PE X (.Constant .none j pos) (tC .non) := fun _ _ _ H _ I h => Constant_none ⟨.non, H, I, rfl, h⟩
/-- a global name of the def -/
def Gl (X : Cx) (x : Str) : Prop := X.env.kindOf x = some .globalImplicit
theorem ld_glob {E : Value → Shared → Prop} {pins : List (Addr × Obj)} {s : Shared} {σ : St} {H : Hp} {x : Str} {u : Value} {pos : Pos} {Q : Value → Shared → Prop} (I : Inv X pins σ H s) (hg : Gl X x) (hm : X.mg x = some u) (h : Q u s)
    (hd : (x == ("__debug__" : Str)) = false := by decide) : wpAny (model X.prog X.w) X.A (eval (.Name x pos) X.env) Q E s :=
  Calls.Name_function_global I.ok.kind hg (Calls.loadGlobal_global (by rw [I.ok.glob]; exact I.mod.glob.keeps I.bk) hm h) hd
theorem ld_blt {E : Value → Shared → Prop} {pins : List (Addr × Obj)} {s : Shared} {σ : St} {H : Hp} {x : Str} {u : Value} {pos : Pos} {Q : Value → Shared → Prop} (I : Inv X pins σ H s) (hg : Gl X x) (hm : X.mg x = none) (hv : bootBuiltins x = some u) (h : Q u s)
    (hn : x ≠ "__name__" := by decide) (hd : (x == ("__debug__" : Str)) = false := by decide) : wpAny (model X.prog X.w) X.A (eval (.Name x pos) X.env) Q E s := by
  obtain ⟨mb, h1, h2⟩ := I.mod.blt
  exact Calls.Name_function_global I.ok.kind hg (Calls.loadGlobal_builtin (by rw [I.ok.glob]; exact I.mod.glob.keeps I.bk) hm (by rw [I.ok.blt]; exact h1.keeps I.bk) ((h2 x hn).trans hv) h) hd
/-- a module's constant, a class, a function, as a value -/
theorem pe_glob {x : Str} {v : V} {u : Value} {pos : Pos} (hg : Gl X x) (hm : X.mg x = some u) (r : RelV v u) (hd : (x == ("__debug__" : Str)) = false := by decide) : PE X (.Name x pos) (tC v) :=
  fun _ _ _ H _ I h => ld_glob I hg hm ⟨v, H, I, r, h⟩ hd
/-! ### arithmetic -/
variable {a b : Expr} {ta tb : TE} {pos : Pos}
/-! ### comparisons -/
def PC (X : Cx) (op : CmpOp) (a b : Expr) (t : TE) : Prop :=
  ∀ (pins : List (Addr × Obj)) (s : Shared) (σ : St) (H : Hp) (Q : VK), Inv X pins σ H s → t σ H Q →
    wpAny (model X.prog X.w) X.A (eval a X.env) (fun v s₁ => wpAny (model X.prog X.w) X.A (eval b X.env) (fun u s₂ => wpAny (model X.prog X.w) X.A (compareOp op v u) (EP X pins σ Q) X.xe s₂) X.xe s₁) X.xe s
theorem nobehind (b : Expr) {op : CmpOp} (h : op ≠ .In) (h2 : op ≠ .NotIn) : behindInMarks op b = false := by
  have e1 : (op == CmpOp.In) = false := by cases op <;> first | rfl | exact absurd rfl h
  have e2 : (op == CmpOp.NotIn) = false := by cases op <;> first | rfl | exact absurd rfl h2
  cases b <;> simp [behindInMarks, e1, e2]
/-- is None -/
def tIsN (ta : TE) : TE := fun σ H Q => ta σ H fun x H1 => Q (.bl (decide (x = .non))) H1
def tNotN (ta : TE) : TE := fun σ H Q => ta σ H fun x H1 => Q (.bl (!decide (x = .non))) H1
theorem RelV.none_iff {x : V} {v : Value} (r : RelV x v) : (v == Value.none) = decide (x = .non) := by
  cases x with
  | non => cases r; rfl
  | bl _ => cases r; rfl
  | int _ => obtain ⟨t, rfl⟩ := r; rfl
  | str _ => obtain ⟨t, rfl⟩ := r; rfl
  | byt _ => obtain ⟨t, rfl⟩ := r; rfl
  | flt _ => obtain ⟨t, rfl⟩ := r; rfl
  | ref _ => cases r; rfl
  | ty _ => cases r; rfl
theorem pc_isN {j pos'} (ha : PE X a ta) : PC X .Is a (.Constant .none j pos') (tIsN ta) := by
  intro pins s σ H Q I h
  refine thn (ha pins s σ H _ I h) fun v s1 ⟨x, H1, I1, r1, q1⟩ => ?_
  exact Constant_none (is_none_gen ⟨.bl _, H1, I1, by rw [r1.none_iff]; rfl, q1⟩)
theorem pc_notN {j pos'} (ha : PE X a ta) : PC X .IsNot a (.Constant .none j pos') (tNotN ta) := by
  intro pins s σ H Q I h
  refine thn (ha pins s σ H _ I h) fun v s1 ⟨x, H1, I1, r1, q1⟩ => ?_
  exact Constant_none (isnot_none_gen ⟨.bl _, H1, I1, by rw [r1.none_iff]; rfl, q1⟩)
/-- a comparison as a value, as a test -/
def tB (t : TE) : TT := fun σ H Q => t σ H fun x H1 => ∃ c, x = .bl c ∧ Q c H1
theorem pe_cmp {op : CmpOp} {t : TE} (h : PC X op a b t) (h1 : behindInMarks op b = false := by first | exact nobehind _ (by decide) (by decide) | rfl) : PE X (.Compare a [op] [b] pos) t := fun pins s σ H Q I hw => wpAny_Compare1 (h pins s σ H Q I hw) h1
theorem pt_cmp {op : CmpOp} {t : TE} (h : PC X op a b t) (h1 : behindInMarks op b = false := by first | exact nobehind _ (by decide) (by decide) | rfl) : PT X (.Compare a [op] [b] pos) (tB t) := by
  intro pins s σ H Q I hw
  refine wpAny_isTrue_Compare1 (thn (h pins s σ H _ I hw) fun v s1 h1 => thn h1 fun u s2 h2 => thn h2 fun c s3 ⟨x, H1, I1, r1, q1⟩ => ?_) h1
  obtain ⟨d, rfl, q⟩ := q1
  cases r1
  exact wpAny_truthy_bool ⟨H1, I1, q⟩
/-- an expression whose value is a bool, as a test -/
theorem pt_val {e : Expr} {t : TE} (h : PE X e t) (he : ∀ whole, isTrue e X.env whole = (do let v ← whole; standAt e.pos; holding [v] (truthy v)) := by intro _; rfl) : PT X e (tB t) := by
  intro pins s σ H Q I hw
  refine isTrue_plain (thn (h pins s σ H _ I hw) fun v s1 ⟨x, H1, I1, r1, q1⟩ => ?_) (he _)
  obtain ⟨d, rfl, q⟩ := q1
  cases r1
  exact wpAny_truthy_bool ⟨H1, I1, q⟩

/-! ### and, or, not -/
variable {tA tB' : TT} {rest : List Expr}
def tAnd (t u : TT) : TT := fun σ H Q => t σ H fun c H1 => if c = true then u σ H1 Q else Q false H1
def tOr (t u : TT) : TT := fun σ H Q => t σ H fun c H1 => if c = true then Q true H1 else u σ H1 Q
def tNot (t : TT) : TT := fun σ H Q => t σ H fun c H1 => Q (!c) H1
theorem pw_and1 (ha : PT X a tA) : PW X (.BoolOp .And [a] pos) tA := by
  intro wh pins s σ H Q I h
  refine isTrue_and (thn (ha pins s σ H Q I h) fun c s1 e => ?_)
  cases c with
  | true => exact isTrue_and_nil e
  | false => exact e
theorem pw_or1 (ha : PT X a tA) : PW X (.BoolOp .Or [a] pos) tA := by
  intro wh pins s σ H Q I h
  refine isTrue_or (thn (ha pins s σ H Q I h) fun c s1 e => ?_)
  cases c with
  | false => exact isTrue_or_nil e
  | true => exact e
theorem pw_and (ha : PT X a tA) (hb : PW X (.BoolOp .And (b :: rest) pos) tB') : PW X (.BoolOp .And (a :: b :: rest) pos) (tAnd tA tB') := by
  intro wh pins s σ H Q I h
  refine isTrue_and (thn (ha pins s σ H _ I h) fun c s1 ⟨H1, I1, q1⟩ => ?_)
  cases c with
  | true => exact hb wh pins s1 σ H1 Q I1 q1
  | false => exact ⟨H1, I1, q1⟩
theorem pw_or (ha : PT X a tA) (hb : PW X (.BoolOp .Or (b :: rest) pos) tB') : PW X (.BoolOp .Or (a :: b :: rest) pos) (tOr tA tB') := by
  intro wh pins s σ H Q I h
  refine isTrue_or (thn (ha pins s σ H _ I h) fun c s1 ⟨H1, I1, q1⟩ => ?_)
  cases c with
  | true => exact ⟨H1, I1, q1⟩
  | false => exact hb wh pins s1 σ H1 Q I1 q1
theorem pt_not (ha : PT X a tA) : PT X (.UnaryOp .Not a pos) (tNot tA) := by
  intro pins s σ H Q I h
  exact isTrue_not (ha pins s σ H (fun c H1 => Q (!c) H1) I h)
/-- .. as values (bools) -/
def tAndV (ta tb : TE) : TE := fun σ H Q => ta σ H fun x H1 => ∃ c, x = .bl c ∧ if c = true then tb σ H1 Q else Q (.bl false) H1
def tOrV (ta tb : TE) : TE := fun σ H Q => ta σ H fun x H1 => ∃ c, x = .bl c ∧ if c = true then Q (.bl true) H1 else tb σ H1 Q
theorem pe_one {op} {t : TE} (h : PE X a t) : PE X (.BoolOp op [a] pos) t := fun pins s σ H Q I hw => BoolOp_one (h pins s σ H Q I hw)
theorem pe_and (ha : PE X a ta) (hb : PE X (.BoolOp .And (b :: rest) pos) tb) : PE X (.BoolOp .And (a :: b :: rest) pos) (tAndV ta tb) := by
  intro pins s σ H Q I h
  refine BoolOp_and (thn (ha pins s σ H _ I h) fun v s1 ⟨x, H1, I1, r1, q1⟩ => ?_)
  obtain ⟨c, rfl, q1⟩ := q1
  cases r1
  refine wpAny_truthy_bool ?_
  cases c with
  | true => exact hb pins s1 σ H1 Q I1 q1
  | false => exact ⟨.bl false, H1, I1, rfl, q1⟩
theorem pe_or (ha : PE X a ta) (hb : PE X (.BoolOp .Or (b :: rest) pos) tb) : PE X (.BoolOp .Or (a :: b :: rest) pos) (tOrV ta tb) := by
  intro pins s σ H Q I h
  refine BoolOp_or (thn (ha pins s σ H _ I h) fun v s1 ⟨x, H1, I1, r1, q1⟩ => ?_)
  obtain ⟨c, rfl, q1⟩ := q1
  cases r1
  refine wpAny_truthy_bool ?_
  cases c with
  | false => exact hb pins s1 σ H1 Q I1 q1
  | true => exact ⟨.bl true, H1, I1, rfl, q1⟩
end
end L2

namespace L2
open PySem PySem.Spec PyProof.Rows

/-! ### a list, a tuple that is read: tracked, frozen, or an object of the module -/
def SqL (K : PySem.W.Frag) (H : Hp) (a : Addr) (xs : List V) : Prop :=
  Rd H a (.lst xs) ∨
    ∃ (o : Obj) (its : Array Value) (n : Nat), K.lookup a = some o ∧ o.cls = .type "list" ∧ o.dict = none ∧ o.data = .seq its n ∧ its.size ≤ sizeLine ∧ Vals xs its.toList
def SqT (K : PySem.W.Frag) (H : Hp) (a : Addr) (xs : List V) : Prop :=
  Rd H a (.tup xs) ∨
    ∃ (o : Obj) (its : Array Value) (n : Nat), K.lookup a = some o ∧ o.cls = .type "tuple" ∧ o.data = .seq its n ∧ its.size ≤ sizeLine ∧ Vals xs its.toList
def absV : Value → Option V
  | .none => some .non
  | .bool b => some (.bl b)
  | .int i _ => some (.int i)
  | .str x _ => some (.str x)
  | .bytes b _ => some (.byt b)
  | .float b _ => some (.flt b)
  | .ref a => some (.ref a)
  | .type n => some (.ty n)
  | _ => none
theorem RelV.abs {x : V} {u : Value} (r : RelV x u) : absV u = some x := by
  cases x with
  | non => cases r; rfl
  | bl _ => cases r; rfl
  | int _ => obtain ⟨t, rfl⟩ := r; rfl
  | str _ => obtain ⟨t, rfl⟩ := r; rfl
  | byt _ => obtain ⟨t, rfl⟩ := r; rfl
  | flt _ => obtain ⟨t, rfl⟩ := r; rfl
  | ref _ => cases r; rfl
  | ty _ => cases r; rfl
theorem RelV.inj {x y : V} {u : Value} (r : RelV x u) (q : RelV y u) : x = y := Option.some.inj (r.abs.symm.trans q.abs)
theorem Vals.inj : ∀ {xs ys : List V} {us : List Value}, Vals xs us → Vals ys us → xs = ys
  | _, _, _, .nil, .nil => rfl
  | _, _, _, .cons r t, .cons r' t' => by rw [r.inj r', Vals.inj t t']
section
variable {X : Cx} {pins : List (Addr × Obj)} {σ : St} {H : Hp} {s : Shared} {a : Addr} {xs ys : List V}
theorem SqL.of {K : PySem.W.Frag} (h : H a = some (.lst xs)) : SqL K H a xs := .inl (.inl h)
theorem SqT.of {K : PySem.W.Frag} (h : H a = some (.tup xs)) : SqT K H a xs := .inl (.inl h)
theorem Inv.list (I : Inv X pins σ H s) (h : SqL X.K H a xs) : ∃ its : List Value, Vals xs its ∧ PlainL s.heap a its.toArray ∧ xs.length ≤ sizeLine := by
  rcases h with h | ⟨o, its, n, hk, hc, hd, hs, hz, r⟩
  · obtain ⟨z, its, n, r, e⟩ := h.ok I.hok
    exact ⟨its, r, ⟨_, n, e, rfl, rfl, rfl⟩, z⟩
  · refine ⟨its.toList, r, ⟨o, n, I.kIn a o hk, hc, hd, by simpa using hs⟩, ?_⟩
    have e := r.length
    simp only [Array.length_toList] at e
    omega
theorem Inv.tuple (I : Inv X pins σ H s) (h : SqT X.K H a xs) : ∃ its : List Value, Vals xs its ∧ IsTup s.heap a its.toArray ∧ xs.length ≤ sizeLine := by
  rcases h with h | ⟨o, its, n, hk, hc, hs, hz, r⟩
  · obtain ⟨z, its, r, p⟩ := h.ok I.hok
    exact ⟨its, r, p, z⟩
  · refine ⟨its.toList, r, ⟨o, I.kIn a o hk, hc, n, by simpa using hs⟩, ?_⟩
    have e := r.length
    simp only [Array.length_toList] at e
    omega
theorem Inv.list_inj (I : Inv X pins σ H s) (h : SqL X.K H a xs) (h' : SqL X.K H a ys) : xs = ys := by
  obtain ⟨its, r, ⟨o, n, e, _, _, d⟩, _⟩ := I.list h
  obtain ⟨its', r', ⟨o', n', e', _, _, d'⟩, _⟩ := I.list h'
  rw [e] at e'; cases e'
  rw [d] at d'
  injection d' with d1 _
  have : its = its' := by simpa using congrArg Array.toList d1
  subst this
  exact r.inj r'
theorem Inv.tuple_inj (I : Inv X pins σ H s) (h : SqT X.K H a xs) (h' : SqT X.K H a ys) : xs = ys := by
  obtain ⟨its, r, ⟨o, e, _, n, d⟩, _⟩ := I.tuple h
  obtain ⟨its', r', ⟨o', e', _, n', d'⟩, _⟩ := I.tuple h'
  rw [e] at e'; cases e'
  rw [d] at d'
  injection d' with d1 _
  have : its = its' := by simpa using congrArg Array.toList d1
  subst this
  exact r.inj r'
end

/-! ### another wish about exceptions -/
abbrev Cx.wish (X : Cx) (E : Value → Shared → Prop) : Cx := { X with xe := E }
/-- no exception leaves -/
abbrev Cx.nox (X : Cx) : Cx := X.wish fun _ _ => False
theorem Cx.Ok.wish {X : Cx} (ok : X.Ok) (E : Value → Shared → Prop) : (X.wish E).Ok :=
  ⟨ok.mod, ok.kind, ok.glob, ok.blt, ok.above, ok.inj, ok.has, ok.cab, ok.hd, ok.frames, ok.stk, ok.exf, ok.bs, ok.bsz, ok.noex, ok.exfs, ok.funs, ok.frf⟩
theorem Cx.Ok.unwish {X : Cx} {E : Value → Shared → Prop} (ok : (X.wish E).Ok) : X.Ok :=
  ⟨ok.mod, ok.kind, ok.glob, ok.blt, ok.above, ok.inj, ok.has, ok.cab, ok.hd, ok.frames, ok.stk, ok.exf, ok.bs, ok.bsz, ok.noex, ok.exfs, ok.funs, ok.frf⟩
section
variable {X : Cx} {pins : List (Addr × Obj)} {σ : St} {H : Hp} {s : Shared} {E : Value → Shared → Prop}
theorem Inv.wish (I : Inv X pins σ H s) (E : Value → Shared → Prop) : Inv (X.wish E) pins σ H s := ⟨I.ok.wish E, I.os, I.bare, I.base, I.loc, I.cell, I.free, I.freeC, I.pin, I.hok, I.len⟩
theorem Inv.unwish (I : Inv (X.wish E) pins σ H s) : Inv X pins σ H s := ⟨I.ok.unwish, I.os, I.bare, I.base, I.loc, I.cell, I.free, I.freeC, I.pin, I.hok, I.len⟩
theorem SP.unwish {D : Ends} {f : Flow} {s' : Shared} (h : SP (X.wish E) pins D f s') : SP X pins D f s' := by
  cases f with
  | next => obtain ⟨σ', H', I, q⟩ := h; exact ⟨σ', H', I.unwish, q⟩
  | brk => obtain ⟨σ', H', I, q⟩ := h; exact ⟨σ', H', I.unwish, q⟩
  | cont => obtain ⟨σ', H', I, q⟩ := h; exact ⟨σ', H', I.unwish, q⟩
  | ret u => obtain ⟨v, σ', H', I, r, q⟩ := h; exact ⟨v, σ', H', I.unwish, r, q⟩
theorem PSs.nox {st : List Stmt} {t : TS} (h : PSs X.nox st t) : PSs X st t := fun pins s σ H D I hw =>
  wpAny_mono (h pins s σ H D (I.wish _) hw) (fun _ _ q => q.unwish) fun _ _ z => False.elim z
end

/-! ### blocks and small statements -/
section
variable {X : Cx} {st : Stmt} {rest : List Stmt} {t u : TS} {e : Expr} {te : TE} {pos : Pos}
def tNext : TS := fun D σ H => D.nx σ H
def tSeq (t u : TS) : TS := fun D σ H => t { D with nx := u D } σ H
theorem pss_nil : PSs X [] tNext := fun _ _ σ H _ I h => wpAny_execs_nil ⟨σ, H, I, h⟩
theorem pss_cons (h1 : PS X st t) (h2 : PSs X rest u) : PSs X (st :: rest) (tSeq t u) := by
  intro pins s σ H D I h
  refine wpAny_execs_cons (thn (h1 pins s σ H { D with nx := u D } I h) fun f s1 q => ?_)
  cases f with
  | next =>
    obtain ⟨σ', H', I', q⟩ := q
    exact h2 pins s1 σ' H' D I' q
  | ret v => exact q
  | brk => exact q
  | cont => exact q
theorem pss_one (h1 : PS X st t) : PSs X [st] t := by
  intro pins s σ H D I h
  refine wpAny_execs_cons (thn (h1 pins s σ H D I h) fun f s1 q => ?_)
  cases f with
  | next => exact wpAny_execs_nil q
  | ret v => exact q
  | brk => exact q
  | cont => exact q
/-- in a def's body nothing is shown -/
theorem Inv.quiet {pins : List (Addr × Obj)} {σ : St} {H : Hp} {s : Shared} (I : Inv X pins σ H s) : interactive X.env = false := by simp [interactive, I.ok.kind]
/-- an expression whose value is dropped -/
def tDrop (te : TE) : TS := fun D σ H => te σ H fun _ H1 => D.nx σ H1
theorem ps_expr (he : PE X e te) (hs : swapsWith e none pos.line X.env = pure false := by rfl) : PS X (.Expr e pos) (tDrop te) := by
  intro pins s σ H D I h
  exact wpAny_Expr_any (thn (he pins s σ H _ I h) fun v s1 ⟨x, H1, I1, r1, q1⟩ => ⟨σ, H1, I1, q1⟩) I.quiet hs
def tRet (te : TE) : TS := fun D σ H => te σ H D.rt
theorem ps_ret (he : PE X e te) : PS X (.Return (some e) pos) (tRet te) := by
  intro pins s σ H D I h
  exact wpAny_Return_some (thn (he pins s σ H _ I h) fun v s1 ⟨x, H1, I1, r1, q1⟩ => ⟨x, σ, H1, I1, r1, q1⟩)
def tIfS (c : TT) (t u : TS) : TS := fun D σ H => c σ H fun b H1 => if b = true then t D σ H1 else u D σ H1
theorem ps_if {c : Expr} {a b : List Stmt} {tc : TT} (hc : PT X c tc) (ha : PSs X a t) (hb : PSs X b u) : PS X (.If c a b pos) (tIfS tc t u) := by
  intro pins s σ H D I h
  refine wpAny_If (thn (hc pins s σ H _ I h) fun d s1 ⟨H1, I1, q1⟩ => ?_)
  cases d with
  | true => exact ha pins s1 σ H1 D I1 q1
  | false => exact hb pins s1 σ H1 D I1 q1
end

/-! ### targets -/
abbrev TG := V → St → Hp → (St → Hp → Prop) → Prop
abbrev TGs := List V → St → Hp → (St → Hp → Prop) → Prop
def PG (X : Cx) (target : Expr) (t : TG) : Prop :=
  ∀ (pins : List (Addr × Obj)) (s : Shared) (σ : St) (H : Hp) (v : V) (u : Value) (Q : St → Hp → Prop), Inv X pins σ H s → RelV v u → t v σ H Q →
    wpAny (model X.prog X.w) X.A (assign target X.env u) (fun _ s' => ∃ σ' H', Inv X pins σ' H' s' ∧ Q σ' H') X.xe s
/-- several targets, one after another -/
def PGs (X : Cx) (ts : List Expr) (t : TGs) : Prop :=
  ∀ (pins : List (Addr × Obj)) (s : Shared) (σ : St) (H : Hp) (vs : List V) (us : List Value) (Q : St → Hp → Prop), Inv X pins σ H s → Vals vs us → t vs σ H Q →
    wpAny (model X.prog X.w) X.A (assignInOrder ((assignEach ts X.env).map (·.2)) us) (fun _ s' => ∃ σ' H', Inv X pins σ' H' s' ∧ Q σ' H') X.xe s
/-- o[i] = v, by values -/
abbrev TSet := V → V → V → Hp → (Hp → Prop) → Prop
def PSet (X : Cx) (t : TSet) : Prop :=
  ∀ (pins : List (Addr × Obj)) (s : Shared) (σ : St) (H : Hp) (o i v : V) (ov iv u : Value) (Q : Hp → Prop), Inv X pins σ H s → RelV o ov → RelV i iv → RelV v u → t o i v H Q →
    wpAny (model X.prog X.w) X.A (setItem ov iv u) (fun _ s' => ∃ H', Inv X pins σ H' s' ∧ Q H') X.xe s
/-- a op= b, by values -/
abbrev TIp := V → V → Hp → VK → Prop
def PIp (X : Cx) (op : Operator) (t : TIp) : Prop :=
  ∀ (pins : List (Addr × Obj)) (s : Shared) (σ : St) (H : Hp) (x y : V) (v u : Value) (Q : VK), Inv X pins σ H s → RelV x v → RelV y u → t x y H Q →
    wpAny (model X.prog X.w) X.A (inplaceOp op v u) (EP X pins σ Q) X.xe s
section
variable {X : Cx} {pos : Pos}
def gName (i : Nat) : TG := fun v σ H Q => Q (σ.set i (some v)) H
theorem pg_name {i : Nat} {x : Str} (hN : X.N.Nodup) (hi : X.N[i]? = some x) (hx : Loc X.env.scope x) (hf : X.fn x = true ∨ X.env.scope.names.lookup x = some .local := by first | exact .inl rfl | exact .inr rfl | assumption) : PG X (.Name x pos) (gName i) := by
  intro pins s σ H v u Q I r h
  exact wpAny_assign_Name (store_ok I hN hi hx r (fun s' I' => ⟨_, H, I', h⟩) hf)
def gNil : TGs := fun vs σ H Q => vs = [] ∧ Q σ H
def gCons (t : TG) (u : TGs) : TGs := fun vs σ H Q => ∃ v r, vs = v :: r ∧ t v σ H fun σ' H' => u r σ' H' Q
theorem pgs_nil : PGs X [] gNil := by
  intro pins s σ H vs us Q I r h
  obtain ⟨e, h⟩ := h
  subst e
  cases r
  exact assignInOrder_nil ⟨σ, H, I, h⟩
theorem pgs_cons {e : Expr} {es : List Expr} {t : TG} {u : TGs} (h1 : PG X e t) (h2 : PGs X es u)
    (hs : (assignEach (e :: es) X.env).map (·.2) = assign e X.env :: (assignEach es X.env).map (·.2) := by rfl) : PGs X (e :: es) (gCons t u) := by
  intro pins s σ H vs us Q I r h
  obtain ⟨v, vr, e1, h⟩ := h
  subst e1
  cases r with
  | cons r rr =>
    rw [hs]
    refine assignInOrder_cons (thn (h1 pins s σ H _ _ _ I r h) fun _ s1 ⟨σ1, H1, I1, q1⟩ => ?_)
    exact h2 pins s1 σ1 H1 _ _ Q I1 rr q1
/-- (a, b, ..) = a tuple of that length -/
def gTup (K : PySem.W.Frag) (n : Nat) (t : TGs) : TG := fun v σ H Q => ∃ a xs, v = .ref a ∧ SqT K H a xs ∧ xs.length = n ∧ t xs σ H Q
theorem pg_tup {es : List Expr} {k : Nat} {t : TGs} {n : Nat} (hc : X.calm = true) (h : PGs X es t)
    (hn : (assignEach es X.env).length = n := by rfl) (hst : (assignEach es X.env).findIdx? (·.1) = none := by rfl) : PG X (.Tuple es k pos) (gTup X.K n t) := by
  intro pins s σ H v u Q I r hw
  obtain ⟨a, xs, e1, hq, hl, hw⟩ := hw
  subst e1
  cases r
  obtain ⟨its, rv, ht, hz⟩ := I.tuple hq
  refine assign_Tuple_tuple (I.ok.hd hc) ht (by simp [hn, ← hl, rv.length]) hst fun h' hx => ?_
  have I1 : Inv X pins σ H { s with heap := h' } := I.kept (t' := s.toks) fun b o e => hx b o (Nat.ne_of_lt (Heap.lt_size e)) e
  exact h pins _ σ H xs _ Q I1 (by simpa using rv) hw
/-- o[i] = .. -/
def gSub (to ti : TE) (t : TSet) : TG := fun v σ H Q => to σ H fun o H1 => ti σ H1 fun i H2 => t o i v H2 fun H3 => Q σ H3
theorem pg_sub {o i : Expr} {to ti : TE} {t : TSet} (ho : PE X o to) (hi : PE X i ti) (hs : PSet X t)
    (ha : ∀ v, assign (.Subscript o i pos) X.env v = (do
      let ov ← holding [v] (eval o X.env)
      let iv ← holding [v, ov] (eval i X.env)
      standAt pos
      holding [v, ov, iv] (setItem ov iv v)
      release [v, ov, iv] []) := by intro _; rfl) : PG X (.Subscript o i pos) (gSub to ti t) := by
  intro pins s σ H v u Q I r h
  rw [ha]
  refine wpAny_bind (wpAny_holding (thn (ho pins s σ H _ I h) fun ov s1 ⟨x, H1, I1, r1, q1⟩ => ?_))
  refine wpAny_bind (wpAny_holding (thn (hi pins s1 σ H1 _ I1 q1) fun iv s2 ⟨y, H2, I2, r2, q2⟩ => ?_))
  refine wpAny_bind (wpAny_standAt (wpAny_bind (wpAny_holding (thn (hs pins s2 σ H2 x y v ov iv u _ I2 r1 r2 r q2) fun _ s3 ⟨H3, I3, q3⟩ => ?_))))
  exact wpAny_release ⟨σ, H3, I3, q3⟩
/-- target = value -/
def tAsg (te : TE) (g : TG) : TS := fun D σ H => te σ H fun x H1 => g x σ H1 D.nx
theorem ps_asg {tg e : Expr} {te : TE} {g : TG} (he : PE X e te) (hg : PG X tg g) (hs : swapsWithSole [tg] e pos.line X.env = pure false := by rfl) (hw : swappedStores [tg] e X.env = pure none := by rfl)
    (h1 : (assignEach [tg] X.env).map (·.2) = [assign tg X.env] := by rfl) : PS X (.Assign [tg] e pos) (tAsg te g) := by
  intro pins s σ H D I h
  refine wpAny_Assign_stores (thn (he pins s σ H _ I h) fun v s1 ⟨x, H1, I1, r1, q1⟩ => ?_) hs hw
  rw [h1]
  exact thn (hg pins s1 σ H1 x v _ I1 r1 q1) fun _ s2 q => q
/-- name = value -/
theorem ps_set {i : Nat} {x : Str} {e : Expr} {te : TE} {pos' : Pos} (hN : X.N.Nodup) (hi : X.N[i]? = some x) (hx : Loc X.env.scope x) (he : PE X e te) (hs : swapsWith e (some (.Name x pos')) pos.line X.env = pure false := by rfl) (hf : X.fn x = true ∨ X.env.scope.names.lookup x = some .local := by first | exact .inl rfl | exact .inr rfl | assumption) :
    PS X (.Assign [.Name x pos'] e pos) (tAsg te (gName i)) := by
  intro pins s σ H D I h
  refine wpAny_Assign_Name (thn (he pins s σ H _ I h) fun v s1 ⟨y, H1, I1, r1, q1⟩ => ?_) hs
  exact store_ok I1 hN hi hx r1 (fun s2 I2 => ⟨_, H1, I2, q1⟩) hf
/-- name op= e -/
def tAug (i : Nat) (te : TE) (ti : TIp) : TS := fun D σ H => ∃ x, σ[i]? = some (some x) ∧ te σ H fun y H1 => ti x y H1 fun z H2 => D.nx (σ.set i (some z)) H2
theorem ps_aug {i : Nat} {x : Str} {e : Expr} {te : TE} {op : Operator} {ti : TIp} {pos' : Pos} (hN : X.N.Nodup) (hi : X.N[i]? = some x) (hx : Loc X.env.scope x) (he : PE X e te) (ho : PIp X op ti) (hf : X.fn x = true ∨ X.env.scope.names.lookup x = some .local := by first | exact .inl rfl | exact .inr rfl | assumption) :
    PS X (.AugAssign (.Name x pos') op e pos) (tAug i te ti) := by
  intro pins s σ H D I h
  obtain ⟨v, e1, h⟩ := h
  obtain ⟨m, hn, hl⟩ := I.loc
  have vis : Vis X.env.scope x := by rcases hx with k | k; exact .inl k; exact .inr (.inl k)
  obtain ⟨u, r, l⟩ := hl i x v hi e1 vis
  refine wpAny_AugAssign_Name ?_
  have go : wpAny (model X.prog X.w) X.A (eval e X.env) (fun w s₂ => wpAny (model X.prog X.w) X.A (inplaceOp op u w) (fun r s₃ => wpAny (model X.prog X.w) X.A (storeName X.env x r) (fun _ => SP X pins D .next) X.xe s₃) X.xe s₂) X.xe s := by
    refine thn (he pins s σ H _ I h) fun w s1 ⟨y, H1, I1, r1, q1⟩ => ?_
    refine thn (ho pins s1 σ H1 v y u w _ I1 r r1 q1) fun z s2 ⟨zv, H2, I2, r2, q2⟩ => ?_
    exact store_ok I2 hN hi hx r2 (fun s3 I3 => ⟨_, H2, I3, q2⟩) hf
  rcases l with ⟨hk, hm⟩ | ⟨hk, c, hc, hcell⟩
  · exact wpAny_loadName_local I.ok.kind hk hn hm go
  · rcases hk with hk | hk
    · exact wpAny_loadName_cell I.ok.kind hk hc hcell go
    · rcases hx with k | k
      · have : X.env.scope.names.lookup x = some .free := hk
        rw [k] at this; cases this
      · have : X.env.scope.names.lookup x = some .free := hk
        rw [k] at this; cases this
/-- o[i] op= e -/
def tAugS (to ti te : TE) (tget : V → V → Hp → VK → Prop) (tip : TIp) (tset : TSet) : TS := fun D σ H => to σ H fun o H1 => ti σ H1 fun i H2 => tget o i H2 fun x H3 => te σ H3 fun y H4 => tip x y H4 fun z H5 => tset o i z H5 fun H6 => D.nx σ H6
/-- o[i], by values -/
def PGet (X : Cx) (t : V → V → Hp → VK → Prop) : Prop :=
  ∀ (pins : List (Addr × Obj)) (s : Shared) (σ : St) (H : Hp) (o i : V) (ov iv : Value) (Q : VK), Inv X pins σ H s → RelV o ov → RelV i iv → t o i H Q →
    wpAny (model X.prog X.w) X.A (getItem ov iv) (EP X pins σ Q) X.xe s
theorem ps_augS {o i e : Expr} {to ti te : TE} {tget : V → V → Hp → VK → Prop} {tip : TIp} {tset : TSet} {op : Operator} {tpos : Pos} (ho : PE X o to) (hi : PE X i ti) (hg : PGet X tget) (he : PE X e te) (hp : PIp X op tip) (hs : PSet X tset)
    (ha : ∀ ov iv new, augStore i ov iv new = (do holding [new, ov, iv] (setItem ov iv new); release [new, ov, iv] []; pure .next) := by intros; rfl) : PS X (.AugAssign (.Subscript o i tpos) op e pos) (tAugS to ti te tget tip tset) := by
  intro pins s σ H D I h
  refine wpAny_AugAssign_SubscriptAny (thn (ho pins s σ H _ I h) fun ov s1 ⟨x1, H1, I1, r1, q1⟩ => ?_) ha
  refine thn (hi pins s1 σ H1 _ I1 q1) fun iv s2 ⟨x2, H2, I2, r2, q2⟩ => ?_
  refine thn (hg pins s2 σ H2 x1 x2 ov iv _ I2 r1 r2 q2) fun old s3 ⟨x3, H3, I3, r3, q3⟩ => ?_
  refine thn (he pins s3 σ H3 _ I3 q3) fun v s4 ⟨x4, H4, I4, r4, q4⟩ => ?_
  refine thn (hp pins s4 σ H4 x3 x4 old v _ I4 r3 r4 q4) fun new s5 ⟨x5, H5, I5, r5, q5⟩ => ?_
  exact thn (hs pins s5 σ H5 x1 x2 x5 ov iv new _ I5 r1 r2 r5 q5) fun _ s6 ⟨H6, I6, q6⟩ => ⟨σ, H6, I6, q6⟩
/-- ints -/
def ipI (f : Int → Int → Int) : TIp := fun x y H Q => ∃ i j, x = .int i ∧ y = .int j ∧ Q (.int (f i j)) H
theorem ip_add : PIp X .Add (ipI fun i j => i + j) := by
  intro pins s σ H x y v u Q I r1 r2 h
  obtain ⟨i, j, e1, e2, q⟩ := h
  subst e1; subst e2
  obtain ⟨t, rfl⟩ := r1
  obtain ⟨t', rfl⟩ := r2
  exact iadd_int ⟨.int _, H, I.tok _, ⟨_, rfl⟩, q⟩
end

/-! ### while -/
section
variable {X : Cx} {pos : Pos}
/-- the invariant W with its measure -/
def tWhile (c : TT) (tb : TS) : TS := fun D σ H => ∃ W : Nat → St → Hp → Prop, (∃ m, W m σ H) ∧ ∀ m σ H, W m σ H →
  c σ H fun b H1 => if b = true then ∃ N : St → Hp → Prop, (∀ σ' H', N σ' H' → ∃ m', m' < m ∧ W m' σ' H') ∧ tb { D with nx := N, ct := N, bk := D.nx } σ H1 else D.nx σ H1
theorem ps_while {c : Expr} {body : List Stmt} {tc : TT} {tb : TS} (hp : PassesOwn (model X.prog X.w) X.A X.env X.xe) (hc : PT X c tc) (hb : PSs X body tb) : PS X (.While c body [] pos) (tWhile tc tb) := by
  intro pins s σ H D I h
  obtain ⟨W, ⟨m0, w0⟩, turn⟩ := h
  refine wpAny_While (codeAny_whileLoop (fun n s' => ∃ σ' H', Inv X pins σ' H' s' ∧ W n σ' H') ?_ m0 ⟨σ, H, I, w0⟩)
  rintro n s1 ⟨σ1, H1, I1, w1⟩
  refine wpAny_passesOwn hp (thn (hc pins s1 σ1 H1 _ I1 (turn n σ1 H1 w1)) fun b s2 ⟨H2, I2, q2⟩ => ?_)
  cases b with
  | true =>
    obtain ⟨N, hN, q2⟩ := q2
    rw [if_pos rfl]
    refine wpAny_passesOwn hp (thn (hb pins s2 σ1 H2 _ I2 q2) fun f s3 q3 => ?_)
    cases f with
    | next =>
      obtain ⟨σ3, H3, I3, n3⟩ := q3
      obtain ⟨m', hm, w3⟩ := hN σ3 H3 n3
      exact ⟨m', hm, σ3, H3, I3, w3⟩
    | cont =>
      obtain ⟨σ3, H3, I3, n3⟩ := q3
      obtain ⟨m', hm, w3⟩ := hN σ3 H3 n3
      exact ⟨m', hm, σ3, H3, I3, w3⟩
    | brk => exact q3
    | ret v => exact q3
  | false =>
    rw [if_neg Bool.false_ne_true]
    exact wpAny_execs_nil ⟨σ1, H2, I2, q2⟩
end

/-! ### what a loop or a comprehension walks -/
/-- at turn i: it yields x (the heap may grow), or it stops -/
structure It where
  go : Nat → Hp → Prop
  yld : Nat → Hp → V → Hp → Prop
  stop : Nat → Hp → Prop
/-- the iterator's own objects may turn: they are not the frame's, not pinned, younger than the entry (or a comprehension's own) -/
def FpOk (X : Cx) (pins : List (Addr × Obj)) (H : Hp) (b : Addr) : Prop :=
  H b = none ∧ b ≠ X.env.locals ∧ b ∉ X.fs ∧ (b ∈ X.ex ∨ X.s_0.heap.objs.size ≤ b) ∧ (∀ x c, X.env.cells.lookup x = some c → c ≠ b) ∧ ∀ p ∈ X.pn ++ pins, p.1 ≠ b
theorem Inv.fpOk {X : Cx} {pins : List (Addr × Obj)} {σ : St} {H H' : Hp} {s : Shared} {b : Addr} (I : Inv X pins σ H s) (hb : s.heap.objs.size ≤ b) (hn : H' b = none) : FpOk X pins H' b := by
  refine ⟨hn, Nat.ne_of_gt (Nat.lt_of_lt_of_le I.lt hb), I.nofs hb, .inr (Nat.le_trans I.sz hb), fun x c e z => ?_, fun p hp z => ?_⟩
  · obtain ⟨v, q⟩ := I.cell x c e
    exact absurd (Nat.lt_of_lt_of_le q.lt (by rw [z]; exact hb)) (Nat.lt_irrefl _)
  · exact absurd (Nat.lt_of_lt_of_le (Heap.lt_size (I.pin p hp).1) (by rw [z]; exact hb)) (Nat.lt_irrefl _)
structure Turn (P : Program) (w : World) (K : PySem.W.Frag) (tg : Expr) (J : It) (fp : List Addr) (it : Addr) (tn : Nat → Heap → Prop) : Prop where
  mem : it ∈ fp
  obj : ∀ i h, tn i h → ∀ b ∈ fp, ∃ o, h.get? b = some o ∧ ∀ v, o.data ≠ .cell v
  keep : ∀ i h h', tn i h → (∀ b ∈ fp, ∀ o, h.get? b = some o → h'.get? b = some o) → tn i h'
  item : ∀ (X : Cx), X.prog = P → X.w = w → X.K = K → X.calm = true → ∀ (i : Nat) (pins : List (Addr × Obj)) (s : Shared) (σ : St) (H : Hp) (E : Value → Shared → Prop), Inv X pins σ H s → (∀ b ∈ fp, FpOk X pins H b) → tn i s.heap → J.go i H →
    wpAny (model P w) X.A (pyNext (.ref it)) (fun r s1 => ∃ u, r = some u ∧
      wpAny (model P w) X.A (letOwnedTupleGo tg (.ref it) u) (fun _ s2 => ∃ x H', Inv X pins σ H' s2 ∧ RelV x u ∧ J.yld i H x H' ∧ tn (i + 1) s2.heap ∧ ∀ b ∈ fp, H' b = none) E s1) E s
  done : ∀ (X : Cx), X.prog = P → X.w = w → X.K = K → X.calm = true → ∀ (i : Nat) (pins : List (Addr × Obj)) (s : Shared) (σ : St) (H : Hp) (E : Value → Shared → Prop), Inv X pins σ H s → (∀ b ∈ fp, FpOk X pins H b) → tn i s.heap → J.stop i H →
    wpAny (model P w) X.A (pyNext (.ref it)) (fun r s1 => r = none ∧ Inv X pins σ H s1) E s
  self : ∀ (A : Around) (i : Nat) (s : Shared) (Q : Value → Shared → Prop) (E : Value → Shared → Prop), tn i s.heap → Q (.ref it) s → wpAny (model P w) A (pyIter (.ref it)) Q E s
abbrev TI := St → Hp → (It → Hp → Prop) → Prop
/-- an iterator has come -/
def PIE (X : Cx) (pins : List (Addr × Obj)) (σ : St) (tg : Expr) (R : It → Hp → Prop) (itv : Value) (s2 : Shared) : Prop :=
  ∃ (it : Addr) (fp : List Addr) (tn : Nat → Heap → Prop) (J : It) (H' : Hp), itv = .ref it ∧ Inv X pins σ H' s2 ∧ Turn X.prog X.w X.K tg J fp it tn ∧ tn 0 s2.heap ∧ (∀ b ∈ fp, FpOk X pins H' b) ∧ R J H'
def PI (X : Cx) (tg iter : Expr) (wi : TI) : Prop :=
  ∀ (pins : List (Addr × Obj)) (s : Shared) (σ : St) (H : Hp) (R : It → Hp → Prop), Inv X pins σ H s → wi σ H R →
    wpAny (model X.prog X.w) X.A (eval iter X.env) (fun v s1 => wpAny (model X.prog X.w) X.A (pyIter v) (PIE X pins σ tg R) X.xe s1) X.xe s

/-- the step ahead of the store is nothing for an iterator that keeps no tuple -/
theorem go_of {M : Model} {A : Around} {E : Value → Shared → Prop} {s : Shared} {tg : Expr} {it : Addr} {u : Value} {o : Obj} {n : String} {vs : Array Value} {Q : Unit → Shared → Prop} (ho : s.heap.get? it = some o) (hc : o.cls = .type n) (hd : o.data = .fields vs)
    (hn : ["enumerate", "zip", "dict_itemiterator", "dict_reverseitemiterator", "odict_iterator", "itertools.zip_longest", "itertools.pairwise"].contains n = false) (hQ : Q () s) : wpAny M A (letOwnedTupleGo tg (.ref it) u) Q E s := by
  unfold letOwnedTupleGo
  cases tg <;> first
    | exact wpAny_pure hQ
    | (cases u <;> first
        | exact wpAny_pure hQ
        | (refine wpAny_bind (wpAny_load ho ?_)
           rw [hc, hd]
           show wpAny M A (if (["enumerate", "zip", "dict_itemiterator", "dict_reverseitemiterator", "odict_iterator", "itertools.zip_longest", "itertools.pairwise"].contains n && vs[0]? == some (rawInt _)) = true then _ else _) Q E s
           rw [if_neg (by intro h; rw [hn, Bool.false_and] at h; cases h)]
           exact wpAny_pure hQ))

/-- the list at a, as it stands at each turn (a loop may append to it) -/
def Itl (K : PySem.W.Frag) (a : Addr) : It :=
  ⟨fun i H => ∃ xs x, SqL K H a xs ∧ xs[i]? = some x, fun i H x H' => H' = H ∧ ∀ xs, SqL K H a xs → xs[i]? = some x, fun i H => ∃ xs, SqL K H a xs ∧ xs.length ≤ i⟩
/-- lo, lo + 1, .. (n of them) -/
def Itr (lo : Int) (n : Nat) : It := ⟨fun i _ => i < n, fun i H x H' => H' = H ∧ x = .int (lo + i), fun i _ => n ≤ i⟩
theorem turn_list {P : Program} {w : World} {K : PySem.W.Frag} {tg : Expr} (a it : Addr) : Turn P w K tg (Itl K a) [it] it (fun i h => h.IsListIter it a i) where
  mem := by simp
  obj := fun i h st b hb => by
    have e : b = it := by simpa using hb
    subst e
    obtain ⟨o, e, c, d⟩ := st
    exact ⟨o, e, fun v z => by rw [d] at z; cases z⟩
  keep := fun i h h' st k => st.at fun o e => k it (by simp) o e
  item := by
    intro X hP hw hK hc i pins s σ H E I hf st hg
    subst hP hw hK
    obtain ⟨xs, x, hq, hx⟩ := hg
    obtain ⟨its, rv, p, hz⟩ := I.list hq
    obtain ⟨u, hu, ru⟩ := rv.get hx
    obtain ⟨f0, f1, f2, f3, f4, f5⟩ := hf it (by simp)
    refine wpAny_pyNext_list_item st p.isList (x := u) (by simpa using hu) fun h' st' sb => ?_
    have I1 : Inv X pins σ H { s with heap := h' } := I.turned (t' := s.toks) (fun b o hb e => (sb.2 b hb).trans e) f0 f1 f3 f4 f5
    obtain ⟨o, e, c, d⟩ := id st'
    exact ⟨u, rfl, go_of (s := { s with heap := h' }) e c d (by decide) ⟨x, H, I1, ru, ⟨rfl, fun ys hy => by rw [I.list_inj hy hq]; exact hx⟩, st', fun b hb => (hf b hb).1⟩⟩
  done := by
    intro X hP hw hK hc i pins s σ H E I hf st hg
    subst hP hw hK
    obtain ⟨xs, hq, hx⟩ := hg
    obtain ⟨its, rv, p, hz⟩ := I.list hq
    obtain ⟨f0, f1, f2, f3, f4, f5⟩ := hf it (by simp)
    have hl := rv.length
    exact wpAny_pyNext_list_end (I.ok.hd hc) st p.isList (by simp; omega) fun h' eb => ⟨rfl, I.turned (t' := s.toks) (fun b o hb e => eb b o hb e) f0 f1 f3 f4 f5⟩
  self := fun _ _ _ _ _ st h => wpAny_pyIter_listiter st h
theorem turn_range {P : Program} {w : World} {K : PySem.W.Frag} {tg : Expr} (it : Addr) (lo : Int) (n : Nat) : Turn P w K tg (Itr lo n) [it] it (fun i h => IsRangeIter h it (lo + (i : Nat) * 1) ((n : Int) - (i : Nat)) 1) where
  mem := by simp
  obj := fun i h st b hb => by
    have e : b = it := by simpa using hb
    subst e
    exact ⟨_, st, fun v z => by
      have z' : Data.fields _ = Data.cell v := z
      cases z'⟩
  keep := fun i h h' st k => k it (by simp) _ st
  item := by
    intro X hP hw hK hc i pins s σ H E I hf st hg
    subst hP hw hK
    obtain ⟨f0, f1, f2, f3, f4, f5⟩ := hf it (by simp)
    have W := Walks.range (prog := X.prog) (w := X.w) (I.ok.hd hc) it lo 1 n
    refine W.item i s _ _ hg st fun v h' tk hv st' kk => ?_
    obtain ⟨t, rfl⟩ := hv
    have I1 : Inv X pins σ H { s with heap := h', toks := tk } := I.turned (fun b o hb e => kk b o (by simpa using hb) e) f0 f1 f3 f4 f5
    refine ⟨_, rfl, go_of (s := { s with heap := h', toks := tk }) (n := "range_iterator") st' rfl rfl (by decide) ⟨.int (lo + i), H, I1, ⟨t, ?_⟩, ⟨rfl, rfl⟩, st', fun b hb => (hf b hb).1⟩⟩
    rw [Int.mul_one]
  done := by
    intro X hP hw hK hc i pins s σ H E I hf st hg
    subst hP hw hK
    obtain ⟨f0, f1, f2, f3, f4, f5⟩ := hf it (by simp)
    exact wpAny_pyNext_range_end (I.ok.hd hc) st (by have : n ≤ i := hg; omega) fun h' eb => ⟨rfl, I.turned (t' := s.toks) (fun b o hb e => eb b o hb e) f0 f1 f3 f4 f5⟩
  self := fun _ _ _ _ _ st h => wpAny_pyIter_rangeiter st h
end L2

namespace L2
open PySem PySem.Spec PyProof.Rows
section
variable {X : Cx} {tg : Expr}
def iList (K : PySem.W.Frag) (tl : TE) : TI := fun σ H R => tl σ H fun x H1 => ∃ a, x = .ref a ∧ (∃ xs, SqL K H1 a xs) ∧ R (Itl K a) H1
theorem pi_list {l : Expr} {tl : TE} (hl : PE X l tl) : PI X tg l (iList X.K tl) := by
  intro pins s σ H R I h
  refine thn (hl pins s σ H _ I h) fun v s1 ⟨x, H1, I1, r1, q1⟩ => ?_
  obtain ⟨a, e, ⟨xs, hq⟩, q⟩ := q1
  subst e
  cases r1
  obtain ⟨its, rv, p, hz⟩ := I1.list hq
  refine wpAny_pyIter_list p.isList ?_
  refine ⟨s1.heap.objs.size, [s1.heap.objs.size], _, _, H1, rfl, I1.kept (t' := s1.toks) fun b o e => Heap.get?_push_of_some _ e, turn_list a _, ⟨_, Heap.get?_push_size _ rfl, rfl, rfl⟩, fun b hb => ?_, q⟩
  have e : b = s1.heap.objs.size := by simpa using hb
  subst e
  exact I1.fpOk (Nat.le_refl _) (I1.hok.fresh (Nat.le_refl _))
/-- a range object just made, walked -/
theorem range_it {pins : List (Addr × Obj)} {σ : St} {H : Hp} {s : Shared} {R : It → Hp → Prop} {E : Value → Shared → Prop} {lo hi : Int} {t u v : Tok} {tk : Nat} (I : Inv X pins σ H s) (h1 : -(2 ^ 62) ≤ lo) (h2 : lo < 2 ^ 62) (h3 : -(2 ^ 62) ≤ hi) (h4 : hi < 2 ^ 62)
    (q : R (Itr lo (hi - lo).toNat) H) : wpAny (model X.prog X.w) X.A (pyIter (.ref s.heap.objs.size)) (PIE X pins σ tg R) E { s with heap := s.heap.push { cls := .type "range", data := .fields #[.int lo t, .int hi u, .int 1 v] }, toks := tk } := by
  refine wpAny_pyIter_range (IsRange.new ..) (small_one h1 h2 h3 h4) ?_
  have I1 : Inv X pins σ H { s with heap := s.heap.push { cls := .type "range", data := .fields #[.int lo t, .int hi u, .int 1 v] }, toks := tk } := I.kept fun b o e => Heap.get?_push_of_some _ e
  refine ⟨(s.heap.push { cls := .type "range", data := .fields #[.int lo t, .int hi u, .int 1 v] }).objs.size, [(s.heap.push { cls := .type "range", data := .fields #[.int lo t, .int hi u, .int 1 v] }).objs.size], _, _, H, rfl,
    I1.kept (t' := tk) fun b o e => Heap.get?_push_of_some _ e, turn_range _ lo (hi - lo).toNat, ?_, fun b hb => ?_, q⟩
  · have e1 : lo + ((0 : Nat) : Int) * 1 = lo := by simp
    have e2 : (((hi - lo).toNat : Nat) : Int) - ((0 : Nat) : Int) = Builtin.Range.rangeSize lo hi 1 := by rw [rangeSize_one]; split <;> omega
    show IsRangeIter _ _ (lo + ((0 : Nat) : Int) * 1) ((((hi - lo).toNat : Nat) : Int) - ((0 : Nat) : Int)) 1
    rw [e1, e2]
    exact Heap.get?_push_size _ rfl
  · have e : b = (s.heap.push { cls := .type "range", data := .fields #[.int lo t, .int hi u, .int 1 v] }).objs.size := by simpa using hb
    subst e
    exact I1.fpOk (Nat.le_refl _) (I1.hok.fresh (Nat.le_refl _))
def iRng2 (ta : TA) : TI := fun σ H R => ta σ H fun vs H1 => ∃ i j : Int, vs = [.int i, .int j] ∧ (-(2 ^ 62) ≤ i ∧ i < 2 ^ 62 ∧ -(2 ^ 62) ≤ j ∧ j < 2 ^ 62) ∧ R (Itr i (j - i).toNat) H1
theorem pi_range2 {a b : Expr} {ta : TA} {p pos : Pos} (hg : Gl X "range") (hm : X.mg "range" = none) (ha : PA X [a, b] ta) (hs : starEach [a, b] X.env = [(false, eval a X.env), (false, eval b X.env)] := by rfl) (hs2 : starEach [b] X.env = [(false, eval b X.env)] := by rfl) :
    PI X tg (.Call (.Name "range" p) [a, b] [] pos) (iRng2 ta) := by
  intro pins s σ H R I h
  refine Call_ (ld_blt I hg hm boot_range (PyProof.Rows.callWith_type1 (thn (ha pos pins s σ H _ I h) fun us s1 ⟨vs, H1, I1, r1, q1⟩ => ?_) (by rw [hs, hs2]) (by rw [hs2]; rfl)))
  obtain ⟨i, j, e, ⟨q1, q2, q3, q4⟩, q⟩ := q1
  subst e
  cases r1 with
  | cons r rr =>
    cases rr with
    | cons r' rr =>
      cases rr
      obtain ⟨t, rfl⟩ := r
      obtain ⟨t', rfl⟩ := r'
      exact call_range_2 (range_it I1 q1 q2 q3 q4 q)

/-! ### for -/
/-- W: the invariant by the turn and a measure; N: what the body is to reach -/
def tFor (wi : TI) (g : TG) (tb : TS) : TS := fun D σ H => wi σ H fun J H1 => ∃ W : Nat → Nat → St → Hp → Prop, (∃ m, W 0 m σ H1) ∧ ∀ i m σ H, W i m σ H →
  (J.stop i H ∧ D.nx σ H) ∨ (J.go i H ∧ ∃ N : St → Hp → Prop, (∀ σ' H', N σ' H' → ∃ m', m' < m ∧ W (i + 1) m' σ' H') ∧ ∀ x H', J.yld i H x H' → g x σ H' fun σ2 H2 => tb { D with nx := N, ct := N, bk := D.nx } σ2 H2)
/-- the records at fp as they stand -/
def pinsAt (fp : List Addr) (h : Heap) : List (Addr × Obj) := fp.filterMap fun b => (h.get? b).map fun o => (b, o)
theorem mem_pinsAt {fp : List Addr} {h : Heap} {b : Addr} {o : Obj} (hb : b ∈ fp) (e : h.get? b = some o) : (b, o) ∈ pinsAt fp h := List.mem_filterMap.mpr ⟨b, hb, by rw [e]; rfl⟩
theorem of_pinsAt {fp : List Addr} {h : Heap} {p : Addr × Obj} (hp : p ∈ pinsAt fp h) : p.1 ∈ fp ∧ h.get? p.1 = some p.2 := by
  obtain ⟨b, hb, e⟩ := List.mem_filterMap.mp hp
  cases q : h.get? b with
  | none => rw [q] at e; cases e
  | some o =>
    rw [q] at e
    have e' : (b, o) = p := Option.some.inj e
    subst e'
    exact ⟨hb, q⟩
theorem Inv.pinned {pins : List (Addr × Obj)} {σ : St} {H : Hp} {s : Shared} {fp : List Addr} (I : Inv X pins σ H s) (hf : ∀ b ∈ fp, FpOk X pins H b) (ho : ∀ b ∈ fp, ∃ o, s.heap.get? b = some o ∧ ∀ v, o.data ≠ .cell v) : Inv X (pins ++ pinsAt fp s.heap) σ H s :=
  I.pins_of fun p hp => (List.mem_append.mp hp).elim (fun z => I.pin p (List.mem_append_right _ z)) fun z => by
    obtain ⟨hb, e⟩ := of_pinsAt z
    obtain ⟨f0, f1, f2, _⟩ := hf p.1 hb
    obtain ⟨o, e', d⟩ := ho p.1 hb
    rw [e] at e'; cases e'
    exact ⟨e, f0, f1, f2, d⟩
theorem Inv.unpinned {pins pl : List (Addr × Obj)} {σ : St} {H : Hp} {s : Shared} (I : Inv X (pins ++ pl) σ H s) : Inv X pins σ H s := I.pins_of fun p hp => I.pin p (List.mem_append_right _ (List.mem_append_left _ hp))
theorem ps_for {iter : Expr} {body : List Stmt} {wi : TI} {g : TG} {tb : TS} {pos : Pos} (hp : PassesOwn (model X.prog X.w) X.A X.env X.xe) (hc : X.calm = true) (hi : PI X tg iter wi) (hg : PG X tg g) (hb : PSs X body tb)
    (hs : ∀ x, foldedSetIterable iter X.env x = pure x := by intro _; rfl) : PS X (.For tg iter body [] pos) (tFor wi g tb) := by
  intro pins s σ H D I h
  refine wpAny_For (thn (hi pins s σ H _ I h) fun v s1 h1 => thn h1 fun itv s2 h2 => ?_) hs
  obtain ⟨it, fp, tn, J, H2, e, I2, T, st2, f2, W, ⟨m0, w0⟩, turn⟩ := h2
  subst e
  -- what stays true of the iterator's objects through the loop
  have stat : ∀ {H' : Hp}, (∀ b ∈ fp, H' b = none) → ∀ b ∈ fp, FpOk X pins H' b := fun hn b hb => ⟨hn b hb, (f2 b hb).2⟩
  refine codeAny_forLoop_any (fun n s' => ∃ i σ' H', Inv X pins σ' H' s' ∧ tn i s'.heap ∧ (∀ b ∈ fp, H' b = none) ∧ W i n σ' H') ?_ m0 ⟨0, σ, H2, I2, st2, fun b hb => (f2 b hb).1, w0⟩
  rintro n s3 ⟨i, σ3, H3, I3, st3, fr3, w3⟩
  rcases turn i n σ3 H3 w3 with ⟨stop, qn⟩ | ⟨go, N, hN, step⟩
  · refine wpAny_passesOwn hp (thn (T.done X rfl rfl rfl hc i pins s3 σ3 H3 X.xe I3 (stat fr3) st3 stop) fun r s4 ⟨hr, I4⟩ => ?_)
    subst hr
    exact wpAny_execs_nil ⟨σ3, H3, I4, qn⟩
  · refine wpAny_passesOwn hp (thn (T.item X rfl rfl rfl hc i pins s3 σ3 H3 X.xe I3 (stat fr3) st3 go) fun r s4 ⟨u, hr, h4⟩ => ?_)
    subst hr
    refine wpAny_passesOwn hp (thn h4 fun _ s5 ⟨x, H5, I5, r5, y5, st5, fr5⟩ => ?_)
    have I5' := I5.pinned (stat fr5) (T.obj _ _ st5)
    refine wpAny_passesOwn hp (thn (hg _ s5 σ3 H5 x u _ I5' r5 (step x H5 y5)) fun _ s6 ⟨σ6, H6, I6, q6⟩ => ?_)
    refine wpAny_passesOwn hp (thn (hb _ s6 σ6 H6 _ I6 q6) fun f s7 q7 => ?_)
    have again : ∀ {σ7 : St} {H7 : Hp}, Inv X (pins ++ pinsAt fp s5.heap) σ7 H7 s7 → N σ7 H7 → ∃ m, m < n ∧ ∃ i σ' H', Inv X pins σ' H' s7 ∧ tn i s7.heap ∧ (∀ b ∈ fp, H' b = none) ∧ W i m σ' H' := fun {σ7 H7} I7 n7 => by
      obtain ⟨m', hm, w7⟩ := hN σ7 H7 n7
      refine ⟨m', hm, i + 1, σ7, H7, I7.unpinned, T.keep _ _ _ st5 fun b hb o e => (I7.pin (b, o) (List.mem_append_right _ (List.mem_append_right _ (mem_pinsAt hb e)))).1, fun b hb => ?_, w7⟩
      obtain ⟨o, e, d⟩ := T.obj _ _ st5 b hb
      exact (I7.pin (b, o) (List.mem_append_right _ (List.mem_append_right _ (mem_pinsAt hb e)))).2.1
    cases f with
    | next => obtain ⟨σ7, H7, I7, n7⟩ := q7; exact again I7 n7
    | cont => obtain ⟨σ7, H7, I7, n7⟩ := q7; exact again I7 n7
    | brk => obtain ⟨σ7, H7, I7, q7⟩ := q7; exact ⟨σ7, H7, I7.unpinned, q7⟩
    | ret v => obtain ⟨x7, σ7, H7, I7, r7, q7⟩ := q7; exact ⟨x7, σ7, H7, I7.unpinned, r7, q7⟩
end

/-! ### the forms one uses -/
/-- over a list that the body leaves as it is -/
theorem for_list {K : PySem.W.Frag} {a : Addr} {xs : List V} {g : TG} {tb : TS} {D : Ends} {σ : St} {H : Hp} (Pv : Nat → St → Hp → Prop) (h0 : Pv 0 σ H) (hl : ∀ i σ H, i ≤ xs.length → Pv i σ H → SqL K H a xs)
    (hs : ∀ i x σ H, xs[i]? = some x → Pv i σ H → g x σ H fun σ2 H2 => tb { D with nx := Pv (i + 1), ct := Pv (i + 1), bk := D.nx } σ2 H2) (hd : ∀ σ H, Pv xs.length σ H → D.nx σ H) :
    ∃ W : Nat → Nat → St → Hp → Prop, (∃ m, W 0 m σ H) ∧ ∀ i m σ H, W i m σ H →
      ((Itl K a).stop i H ∧ D.nx σ H) ∨ ((Itl K a).go i H ∧ ∃ N : St → Hp → Prop, (∀ σ' H', N σ' H' → ∃ m', m' < m ∧ W (i + 1) m' σ' H') ∧ ∀ x H', (Itl K a).yld i H x H' → g x σ H' fun σ2 H2 => tb { D with nx := N, ct := N, bk := D.nx } σ2 H2) := by
  refine ⟨fun i m σ H => m = xs.length - i ∧ i ≤ xs.length ∧ Pv i σ H, ⟨xs.length, by simp, Nat.zero_le _, h0⟩, ?_⟩
  rintro i m σ H ⟨rfl, hi, p⟩
  have q := hl i σ H hi p
  by_cases hlt : i < xs.length
  · refine .inr ⟨⟨xs, xs[i], q, by simp [hlt]⟩, Pv (i + 1), fun σ' H' p' => ⟨xs.length - (i + 1), by omega, rfl, hlt, p'⟩, fun x H' y => ?_⟩
    obtain ⟨e, y⟩ := y
    subst e
    exact hs i x σ _ (y xs q) p
  · have e : i = xs.length := by omega
    subst e
    exact .inl ⟨⟨xs, q, Nat.le_refl _⟩, hd σ H p⟩
theorem for_range {lo : Int} {n : Nat} {g : TG} {tb : TS} {D : Ends} {σ : St} {H : Hp} (Pv : Nat → St → Hp → Prop) (h0 : Pv 0 σ H)
    (hs : ∀ i σ H, i < n → Pv i σ H → g (.int (lo + i)) σ H fun σ2 H2 => tb { D with nx := Pv (i + 1), ct := Pv (i + 1), bk := D.nx } σ2 H2) (hd : ∀ σ H, Pv n σ H → D.nx σ H) :
    ∃ W : Nat → Nat → St → Hp → Prop, (∃ m, W 0 m σ H) ∧ ∀ i m σ H, W i m σ H →
      ((Itr lo n).stop i H ∧ D.nx σ H) ∨ ((Itr lo n).go i H ∧ ∃ N : St → Hp → Prop, (∀ σ' H', N σ' H' → ∃ m', m' < m ∧ W (i + 1) m' σ' H') ∧ ∀ x H', (Itr lo n).yld i H x H' → g x σ H' fun σ2 H2 => tb { D with nx := N, ct := N, bk := D.nx } σ2 H2) := by
  refine ⟨fun i m σ H => m = n - i ∧ i ≤ n ∧ Pv i σ H, ⟨n, by simp, Nat.zero_le _, h0⟩, ?_⟩
  rintro i m σ H ⟨rfl, hi, p⟩
  by_cases hlt : i < n
  · refine .inr ⟨hlt, Pv (i + 1), fun σ' H' p' => ⟨n - (i + 1), by omega, rfl, hlt, p'⟩, fun x H' y => ?_⟩
    obtain ⟨e, y⟩ := y
    subst e y
    exact hs i σ _ hlt p
  · have e : i = n := by omega
    subst e
    exact .inl ⟨Nat.le_refl _, hd σ H p⟩
end L2

namespace L2
open PySem PySem.Spec PyProof.Rows

abbrev R2 := V → V → Hp → VK → Prop
/-- a two-place operation on values: f is binaryOp op, inplaceOp op or compareOp op -/
def OpR (X : Cx) (f : Value → Value → Sem Value) (r : R2) : Prop :=
  ∀ (pins : List (Addr × Obj)) (s : Shared) (σ : St) (H : Hp) (x y : V) (v u : Value) (Q : VK), Inv X pins σ H s → RelV x v → RelV y u → r x y H Q →
    wpAny (model X.prog X.w) X.A (f v u) (EP X pins σ Q) X.xe s
/-- a one-place operation -/
def UnR (X : Cx) (f : Value → Sem Value) (r : V → Hp → VK → Prop) : Prop :=
  ∀ (pins : List (Addr × Obj)) (s : Shared) (σ : St) (H : Hp) (x : V) (v : Value) (Q : VK), Inv X pins σ H s → RelV x v → r x H Q →
    wpAny (model X.prog X.w) X.A (f v) (EP X pins σ Q) X.xe s
/-- a call of a value that is known (a builtin, a type) with values -/
def CallR (X : Cx) (f : Value) (r : List V → Hp → VK → Prop) : Prop :=
  ∀ (pins : List (Addr × Obj)) (s : Shared) (σ : St) (H : Hp) (xs : List V) (us : List Value) (Q : VK), Inv X pins σ H s → Vals xs us → r xs H Q →
    wpAny (model X.prog X.w) X.A (call f us) (EP X pins σ Q) X.xe s
def tOp (r : R2) (ta tb : TE) : TE := fun σ H Q => ta σ H fun x H1 => tb σ H1 fun y H2 => r x y H2 Q
def tUn (r : V → Hp → VK → Prop) (ta : TE) : TE := fun σ H Q => ta σ H fun x H1 => r x H1 Q
def rI0 (g : Int → Int → V) : R2 := fun x y H Q => ∃ i j, x = .int i ∧ y = .int j ∧ Q (g i j) H
def rU (g : Int → V) : V → Hp → VK → Prop := fun x H Q => ∃ i, x = .int i ∧ Q (g i) H

section
variable {X : Cx} {a b c : Expr} {ta tb tc : TE} {pos : Pos}

theorem binT (ha : PE X a ta) (hb : PE X b tb) {pins : List (Addr × Obj)} {s : Shared} {σ : St} {H : Hp} {R : V → V → Hp → Prop} (I : Inv X pins σ H s)
    (h : ta σ H fun x H1 => tb σ H1 fun y H2 => R x y H2) {Q : Value → Shared → Prop} {f : Value → Value → Sem Value}
    (hf : ∀ v u s2 x y H2, Inv X pins σ H2 s2 → RelV x v → RelV y u → R x y H2 → wpAny (model X.prog X.w) X.A (f v u) Q X.xe s2) :
    wpAny (model X.prog X.w) X.A (eval a X.env) (fun v s₁ => wpAny (model X.prog X.w) X.A (eval b X.env) (fun u s₂ => wpAny (model X.prog X.w) X.A (f v u) Q X.xe s₂) X.xe s₁) X.xe s := by
  refine thn (ha pins s σ H _ I h) fun v s1 ⟨x, H1, I1, r1, q1⟩ => ?_
  refine thn (hb pins s1 σ H1 _ I1 q1) fun u s2 ⟨y, H2, I2, r2, q2⟩ => ?_
  exact hf v u s2 x y H2 I2 r1 r2 q2

theorem pe_op {op : Operator} {r : R2} (ho : OpR X (binaryOp op) r) (ha : PE X a ta) (hb : PE X b tb) : PE X (.BinOp a op b pos) (tOp r ta tb) := by
  intro pins s σ H Q I h
  exact wpAny_BinOp (binT ha hb I h fun v u s2 x y H2 I2 rx ry q => ho pins s2 σ H2 x y v u Q I2 rx ry q)
theorem pe_un {op : UnaryOp} {r : V → Hp → VK → Prop} (ho : UnR X (unaryOp op) r) (ha : PE X a ta) : PE X (.UnaryOp op a pos) (tUn r ta) := by
  intro pins s σ H Q I h
  exact UnaryOp_ (thn (ha pins s σ H _ I h) fun v s1 ⟨x, H1, I1, r1, q1⟩ => ho pins s1 σ H1 x v Q I1 r1 q1)
/-! ### ints -/
theorem opI0 {f : Value → Value → Sem Value} {g : Int → Int → Int}
    (rule : ∀ (i j : Int) (t u : Tok) (s : Shared) (Q : Value → Shared → Prop) (E : Value → Shared → Prop), Q (.int (g i j) s.toks) { s with toks := s.toks + 1 } → wpAny (model X.prog X.w) X.A (f (.int i t) (.int j u)) Q E s) :
    OpR X f (rI0 fun i j => .int (g i j)) := by
  intro pins s σ H x y v u Q I rx ry h
  obtain ⟨i, j, rfl, rfl, q⟩ := h
  obtain ⟨t, rfl⟩ := rx
  obtain ⟨t', rfl⟩ := ry
  exact rule i j t t' s _ _ ⟨.int (g i j), H, I.tok _, ⟨_, rfl⟩, q⟩
theorem opB0 {f : Value → Value → Sem Value} {g : Int → Int → Bool}
    (rule : ∀ (i j : Int) (t u : Tok) (s : Shared) (Q : Value → Shared → Prop) (E : Value → Shared → Prop), Q (.bool (g i j)) s → wpAny (model X.prog X.w) X.A (f (.int i t) (.int j u)) Q E s) :
    OpR X f (rI0 fun i j => .bl (g i j)) := by
  intro pins s σ H x y v u Q I rx ry h
  obtain ⟨i, j, rfl, rfl, q⟩ := h
  obtain ⟨t, rfl⟩ := rx
  obtain ⟨t', rfl⟩ := ry
  exact rule i j t t' s _ _ ⟨.bl (g i j), H, I, rfl, q⟩

theorem op_add : OpR X (binaryOp .Add) (rI0 fun i j => .int (i + j)) := opI0 fun _ _ _ _ _ _ _ q => add_int q
theorem op_sub : OpR X (binaryOp .Sub) (rI0 fun i j => .int (i - j)) := opI0 fun _ _ _ _ _ _ _ q => sub_int q
theorem unI {f : Value → Sem Value} {g : Int → Int}
    (rule : ∀ (i : Int) (t : Tok) (s : Shared) (Q : Value → Shared → Prop) (E : Value → Shared → Prop), Q (.int (g i) s.toks) { s with toks := s.toks + 1 } → wpAny (model X.prog X.w) X.A (f (.int i t)) Q E s) :
    UnR X f (rU fun i => .int (g i)) := by
  intro pins s σ H x v Q I rx h
  obtain ⟨i, rfl, q⟩ := h
  obtain ⟨t, rfl⟩ := rx
  exact rule i t s _ _ ⟨.int (g i), H, I.tok _, ⟨_, rfl⟩, q⟩
theorem un_neg : UnR X (unaryOp .USub) (rU fun i => .int (-i)) := unI fun _ _ _ _ _ q => neg_int q
/-! ### bools among ints: n += (a < b) -/
end

/-! ### comparisons -/
/-- the scalars that == tells apart as data does -/
def scal : V → V → Bool
  | .non, .non => true | .non, .int _ => true | .int _, .non => true | .non, .bl _ => true | .bl _, .non => true | .non, .str _ => true | .str _, .non => true
  | .int _, .int _ => true | .bl _, .bl _ => true | .str _, .str _ => true | .byt _, .byt _ => true
  | .int _, .str _ => true | .str _, .int _ => true | .bl _, .str _ => true | .str _, .bl _ => true
  | _, _ => false
def rEq : R2 := fun x y H Q => scal x y = true ∧ Q (.bl (decide (x = y))) H
def rNe : R2 := fun x y H Q => scal x y = true ∧ Q (.bl (!decide (x = y))) H

theorem dec_int {i j : Int} : decide (V.int i = V.int j) = (i == j) := by
  rw [Bool.eq_iff_iff]
  simp
theorem dec_bl {i j : Bool} : decide (V.bl i = V.bl j) = (i == j) := by
  rw [Bool.eq_iff_iff]
  simp
theorem dec_str {i j : Str} : decide (V.str i = V.str j) = (i == j) := by
  rw [Bool.eq_iff_iff]
  simp
theorem dec_byt {i j : Array UInt8} : decide (V.byt i = V.byt j) = (i.toList == j.toList) := by
  rw [Bool.eq_iff_iff]
  cases i
  cases j
  simp

section
variable {X : Cx} {a b c : Expr} {ta tb tc : TE} {pos : Pos}
theorem fin_bl {pins : List (Addr × Obj)} {σ : St} {H : Hp} {s : Shared} {Q : VK} {k k' : Bool} (I : Inv X pins σ H s) (q : Q (.bl k) H) (e : k = k') : EP X pins σ Q (.bool k') s := by
  subst e
  exact ⟨.bl k, H, I, rfl, q⟩
theorem op_eq : OpR X (compareOp .Eq) rEq := by
  intro pins s σ H x y v u Q I rx ry h
  obtain ⟨hs, q⟩ := h
  cases x with
  | non =>
    cases rx
    cases y with
    | non => cases ry; exact PySem.EqNone.eq_none_none (fin_bl I q (by simp))
    | bl j => cases ry; exact PySem.EqNone.eq_none_bool (fin_bl I q (by simp))
    | int j => obtain ⟨t', rfl⟩ := ry; exact PySem.EqNone.eq_none_int (fin_bl I q (by simp))
    | str j => obtain ⟨t', rfl⟩ := ry; exact PySem.EqNone.eq_none_str (fin_bl I q (by simp))
    | _ => exact absurd (show false = true from hs) Bool.false_ne_true
  | bl i =>
    cases rx
    cases y with
    | non => cases ry; exact PySem.EqNone.eq_bool_none (fin_bl I q (by simp))
    | bl j => cases ry; exact eq_bool (fin_bl I q dec_bl)
    | str j => obtain ⟨t', rfl⟩ := ry; exact PySem.EqMixed.eq_bool_str (fin_bl I q (by simp))
    | _ => exact absurd (show false = true from hs) Bool.false_ne_true
  | int i =>
    obtain ⟨t, rfl⟩ := rx
    cases y with
    | non => cases ry; exact PySem.EqNone.eq_int_none (fin_bl I q (by simp))
    | int j => obtain ⟨t', rfl⟩ := ry; exact eq_int (fin_bl I q dec_int)
    | str j => obtain ⟨t', rfl⟩ := ry; exact PySem.EqMixed.eq_int_str (fin_bl I q (by simp))
    | _ => exact absurd (show false = true from hs) Bool.false_ne_true
  | str i =>
    obtain ⟨t, rfl⟩ := rx
    cases y with
    | non => cases ry; exact PySem.EqNone.eq_str_none (fin_bl I q (by simp))
    | bl j => cases ry; exact PySem.EqMixed.eq_str_bool (fin_bl I q (by simp))
    | int j => obtain ⟨t', rfl⟩ := ry; exact PySem.EqMixed.eq_str_int (fin_bl I q (by simp))
    | str j => obtain ⟨t', rfl⟩ := ry; exact eq_str (fin_bl I q dec_str)
    | _ => exact absurd (show false = true from hs) Bool.false_ne_true
  | byt i =>
    obtain ⟨t, rfl⟩ := rx
    cases y with
    | byt j => obtain ⟨t', rfl⟩ := ry; exact PySem.W.eq_bytes (fin_bl I q dec_byt)
    | _ => exact absurd (show false = true from hs) Bool.false_ne_true
  | _ => cases y <;> exact absurd (show false = true from hs) Bool.false_ne_true
theorem op_ne : OpR X (compareOp .NotEq) rNe := by
  intro pins s σ H x y v u Q I rx ry h
  obtain ⟨hs, q⟩ := h
  cases x with
  | non =>
    cases rx
    cases y with
    | non => cases ry; exact PySem.EqNone.ne_none_none (fin_bl I q (by simp))
    | bl j => cases ry; exact PySem.EqNone.ne_none_bool (fin_bl I q (by simp))
    | int j => obtain ⟨t', rfl⟩ := ry; exact PySem.EqNone.ne_none_int (fin_bl I q (by simp))
    | str j => obtain ⟨t', rfl⟩ := ry; exact PySem.EqNone.ne_none_str (fin_bl I q (by simp))
    | _ => exact absurd (show false = true from hs) Bool.false_ne_true
  | bl i =>
    cases rx
    cases y with
    | non => cases ry; exact PySem.EqNone.ne_bool_none (fin_bl I q (by simp))
    | bl j => cases ry; exact ne_bool (fin_bl I q (congrArg not dec_bl))
    | str j => obtain ⟨t', rfl⟩ := ry; exact PySem.EqMixed.ne_bool_str (fin_bl I q (by simp))
    | _ => exact absurd (show false = true from hs) Bool.false_ne_true
  | int i =>
    obtain ⟨t, rfl⟩ := rx
    cases y with
    | non => cases ry; exact PySem.EqNone.ne_int_none (fin_bl I q (by simp))
    | int j => obtain ⟨t', rfl⟩ := ry; exact ne_int (fin_bl I q (congrArg not dec_int))
    | str j => obtain ⟨t', rfl⟩ := ry; exact PySem.EqMixed.ne_int_str (fin_bl I q (by simp))
    | _ => exact absurd (show false = true from hs) Bool.false_ne_true
  | str i =>
    obtain ⟨t, rfl⟩ := rx
    cases y with
    | non => cases ry; exact PySem.EqNone.ne_str_none (fin_bl I q (by simp))
    | bl j => cases ry; exact PySem.EqMixed.ne_str_bool (fin_bl I q (by simp))
    | int j => obtain ⟨t', rfl⟩ := ry; exact PySem.EqMixed.ne_str_int (fin_bl I q (by simp))
    | str j => obtain ⟨t', rfl⟩ := ry; exact ne_str (fin_bl I q (congrArg not dec_str))
    | _ => exact absurd (show false = true from hs) Bool.false_ne_true
  | byt i =>
    obtain ⟨t, rfl⟩ := rx
    cases y with
    | byt j => obtain ⟨t', rfl⟩ := ry; exact PySem.W.ne_bytes (fin_bl I q (congrArg not dec_byt))
    | _ => exact absurd (show false = true from hs) Bool.false_ne_true
  | _ => cases y <;> exact absurd (show false = true from hs) Bool.false_ne_true

theorem op_lt : OpR X (compareOp .Lt) (rI0 fun i j => .bl (decide (i < j))) := opB0 fun _ _ _ _ _ _ _ q => lt_int q
theorem op_gt : OpR X (compareOp .Gt) (rI0 fun i j => .bl (decide (j < i))) := opB0 fun _ _ _ _ _ _ _ q => gt_int q
theorem op_ge : OpR X (compareOp .GtE) (rI0 fun i j => .bl (decide (j ≤ i))) := opB0 fun _ _ _ _ _ _ _ q => ge_int q
theorem nomark (b : Expr) {op : CmpOp} (h : op ≠ .In := by decide) (h2 : op ≠ .NotIn := by decide) : behindInMarks op b = false := by
  have e1 : (op == CmpOp.In) = false := by cases op <;> first | rfl | exact absurd rfl h
  have e2 : (op == CmpOp.NotIn) = false := by cases op <;> first | rfl | exact absurd rfl h2
  cases b <;> simp [behindInMarks, e1, e2]
/-- a comparison as a value; hm: nomark b, or (for in, not in) by with_unfolding_all rfl -/
theorem pe_cmpR {op : CmpOp} {r : R2} (ho : OpR X (compareOp op) r) (ha : PE X a ta) (hb : PE X b tb) (hm : behindInMarks op b = false) : PE X (.Compare a [op] [b] pos) (tOp r ta tb) := by
  intro pins s σ H Q I h
  exact wpAny_Compare1 (binT ha hb I h fun v u s2 x y H2 I2 rx ry q => ho pins s2 σ H2 x y v u Q I2 rx ry q) hm
/-- a reading of a value as a test -/
def tTest (t : TE) : TT := fun σ H Q => t σ H fun x H' => ∃ k, x = .bl k ∧ Q k H'
theorem pt_cmpR {op : CmpOp} {r : R2} (ho : OpR X (compareOp op) r) (ha : PE X a ta) (hb : PE X b tb) (hm : behindInMarks op b = false) : PT X (.Compare a [op] [b] pos) (tTest (tOp r ta tb)) := by
  intro pins s σ H Q I h
  refine wpAny_isTrue_Compare1 (thn (ha pins s σ H _ I h) fun v s1 ⟨x, H1, I1, r1, q1⟩ => thn (hb pins s1 σ H1 _ I1 q1) fun u s2 ⟨y, H2, I2, r2, q2⟩ =>
    thn (ho pins s2 σ H2 x y v u _ I2 r1 r2 q2) fun c s3 ⟨z, H3, I3, r3, k, e, q3⟩ => ?_) hm
  subst e
  cases r3
  exact wpAny_truthy_bool ⟨H3, I3, q3⟩
/-! ### truth -/
theorem line63 : (sizeLine : Nat) < 2 ^ 63 := by rw [sizeLine_eq]; decide
/-! ### strs and bytes -/
/-! ### scalar builtins, by CallR -/
theorem vals1 {x : V} {us : List Value} (r : Vals [x] us) : ∃ u, us = [u] ∧ RelV x u := by
  cases r with
  | cons r1 r2 => cases r2; exact ⟨_, rfl, r1⟩
theorem vals2 {x y : V} {us : List Value} (r : Vals [x, y] us) : ∃ u w', us = [u, w'] ∧ RelV x u ∧ RelV y w' := by
  cases r with
  | cons r1 r2 =>
    cases r2 with
    | cons r3 r4 => cases r4; exact ⟨_, _, rfl, r1, r3⟩
theorem call_min2 (hc : X.calm = true) : CallR X (.builtin "min") (fun xs H Q => ∃ i j, xs = [.int i, .int j] ∧ Q (.int (if j < i then j else i)) H) := by
  intro pins s σ H xs us Q I r h
  obtain ⟨i, j, rfl, q⟩ := h
  obtain ⟨u, w', rfl, ⟨t, rfl⟩, ⟨t', rfl⟩⟩ := vals2 r
  refine min_two_ints (I.ok.hd hc) fun h' tk k => ⟨_, H, I.kept k, ?_, q⟩
  by_cases hj : j < i
  · rw [if_pos hj, if_pos hj]; exact ⟨_, rfl⟩
  · rw [if_neg hj, if_neg hj]; exact ⟨_, rfl⟩
end
end L2

namespace L2
open PySem PySem.Spec PyProof.Rows

/-! ### an instance, its attributes a map -/
structure ObjM (h : Heap) (x dx C : Addr) (mA : Str → Option Value) : Prop where
  obj : h.get? x = some (PySem.W.instObj C dx)
  ns : h.Ns1 dx mA
  ne : dx ≠ x

theorem lookIn_ns {h : Heap} {dx : Addr} {mA : Str → Option Value} (n : h.Ns1 dx mA) : ∃ od, h.get? dx = some od ∧ ∀ name, PySem.W.lookIn name od = some (mA name) := by
  obtain ⟨o, es, ep, ho, hd, hk, _, hm⟩ := n
  refine ⟨o, ho, fun name => ?_⟩
  have e := hm name
  unfold nsFind findBy at e
  rw [← Array.find?_toList] at e
  unfold PySem.W.lookIn
  rw [hd]
  dsimp only
  split
  · rename_i y q
    rw [q] at e
    exact congrArg some e
  · rename_i q
    rw [q] at e
    have a : es.toList.any (·.refKey) = false := by
      rw [List.any_eq_false]
      intro y hy
      obtain ⟨z, t, hkey⟩ := hk y (Array.mem_toList_iff.mp hy)
      simp [DictEntry.refKey, hkey]
    have a' : ¬ es.toList.any (·.refKey) = true := by rw [a]; exact Bool.false_ne_true
    rw [if_neg a']
    exact congrArg some e

theorem ObjM.look {h : Heap} {x dx C : Addr} {mA : Str → Option Value} (I : ObjM h x dx C mA) : ∃ od, PySem.W.InstAt h x (PySem.W.instObj C dx) C (some od) ∧ ∀ name, PySem.W.lookIn name od = some (mA name) :=
  let ⟨od, ho, hl⟩ := lookIn_ns I.ns
  ⟨od, ⟨I.obj, rfl, rfl, ho⟩, hl⟩

section
variable {prog : Program} {w : World} {A : Around} {E : Value → Shared → Prop} {s : Shared} {K : PySem.W.Frag} {x dx C f : Addr} {mA : Str → Option Value} {name : Str} {v : Value}

theorem get_map {expr : Bool} {Q : Value → Shared → Prop} (X : K.In s.heap) (I : ObjM s.heap x dx C mA) (hg : PySem.W.plainGet K C name = true) (hh : PySem.W.hasDictIn K C = true)
    (ha : PySem.W.findIn K (.ref C) name = some none) (hv : mA name = some v) (hv' : PySem.W.handedIn v = true) (h : Q v { s with toks := s.toks + 1 }) :
    wpAny (model prog w) A (getAttr (.ref x) name expr) Q E s := by
  obtain ⟨od, J, hl⟩ := I.look
  exact PySem.W.get_value X J (PySem.W.plainGet_of hg).1 (PySem.W.findObj_own hh ha rfl (by rw [hl, hv])) hv' h

theorem set_map {ns : List Str} {Q : Unit → Shared → Prop} (X : K.In s.heap) (I : ObjM s.heap x dx C mA)
    (hs : PySem.W.findIn K (.ref C) "__setattr__" = some (some (.builtin "object.__setattr__"))) (hp : PySem.W.plainOver K C = true) (ht : PySem.W.takerIn K C name = some none) (hh : PySem.W.hasDictIn K C = true)
    (hw : PySem.Within mA ns) (hsz : ns.length ≤ sizeLine)
    (h : ∀ h', ObjM h' x dx C (fun y => if y = name then some v else mA y) → Heap.SameBut dx s.heap h' → Q () { s with heap := h', toks := s.toks + 2 }) :
    wpAny (model prog w) A (setAttr (.ref x) name v) Q E s := by
  obtain ⟨od, J, hl⟩ := I.look
  refine PySem.W.set_plain X J hs (PySem.W.osa_open (s := { s with toks := s.toks + 1 }) (r := none) X J hp ht fun b => ?_)
  obtain ⟨cd, hc, hd'⟩ := PySem.W.any_some hh
  have hx : s.heap.get? x = some ⟨.ref C, some dx, .plain, #[]⟩ := I.obj
  refine wpAny_bind (wpAny_pure (wpAny_bind (wpAny_bind (wpAny_loadPart hx (wpAny_bind (PySem.W.Looks.here (s := { s with toks := s.toks + 1 }) (PySem.W.looks_clsIn X hc) ?_))))))
  rw [hd']
  refine wpAny_pure (a := some dx) (wpAny_bind (wpAny_pure (wpAny_bind ?_)))
  refine wpAny_nsSet1 (s := { s with toks := s.toks + 1 }) I.ns fun h' hn2 hs2 => ?_
  obtain ⟨oD, esD, epD, hoD, hdD, hcD⟩ := hn2.count (PySem.Within.cons name v hw)
  refine wpAny_bind (wpAny_lookBehind hoD (by rw [hdD]; exact pastItsLine_dict (Nat.le_trans hcD (by rw [List.length_cons]; omega))) ?_)
  exact wpAny_pure (h _ ⟨(hs2.2 _ (Ne.symm I.ne)).trans I.obj, hn2, I.ne⟩ hs2)

/-- C(..): the dict at the heap's end, the instance behind it; then its __init__ -/
theorem make_map {R : Result → Shared → Prop} {vs : List Value} {kw : List (Str × Value)} (X : K.In s.heap) (hm : PySem.W.makesIn K C = true)
    (hi : PySem.W.findIn K (.ref C) "__init__" = some (some (.ref f))) (hf : PySem.W.typeIn K (.ref f) = some (.type "function"))
    (h : codeAny (model prog w) (A.under (.builtin "type.__call__" ⟨.ref C :: vs, kw⟩)) (.call (.ref f) ⟨.ref (s.heap.objs.size + 1) :: vs, kw⟩) (PySem.W.InitBack (s.heap.objs.size + 1) R)
      { s with heap := (s.heap.push PySem.W.emptyDict).push (PySem.W.instObj C s.heap.objs.size) }) :
    codeAny (model prog w) A (.call (.ref C) ⟨vs, kw⟩) R s := by
  obtain ⟨hh, g, d, t, os⟩ := s
  exact PySem.W.make_core (PySem.W.makes_of X hm) (PySem.W.looks_findIn X hi) (fun self => PySem.W.bind_fn X self hf) (.inl rfl) h
end

/-! ### the attributes as a list of pairs -/
def putF (f : Str) (v : V) : List (Str × V) → List (Str × V)
  | [] => [(f, v)]
  | (g, x) :: r => if g = f then (g, v) :: r else (g, x) :: putF f v r
theorem lookup_putF (f g : Str) (v : V) : ∀ fs : List (Str × V), (putF f v fs).lookup g = if g = f then some v else fs.lookup g
  | [] => by
    show List.lookup g [(f, v)] = _
    by_cases h : g = f
    · have hb : (g == f) = true := beq_iff_eq.mpr h
      simp only [List.lookup, hb, if_pos h]
    · have hb : (g == f) = false := beq_eq_false_iff_ne.mpr h
      simp only [List.lookup, hb, if_neg h]
  | (k, x) :: r => by
    have ih := lookup_putF f g v r
    rw [show putF f v ((k, x) :: r) = (if k = f then (k, v) :: r else (k, x) :: putF f v r) from rfl]
    by_cases hk : k = f
    · rw [if_pos hk]
      by_cases h : g = k
      · have hb : (g == k) = true := beq_iff_eq.mpr h
        simp only [List.lookup, hb, if_pos (h.trans hk)]
      · have hb : (g == k) = false := beq_eq_false_iff_ne.mpr h
        simp only [List.lookup, hb, if_neg (fun e : g = f => h (e.trans hk.symm))]
    · rw [if_neg hk]
      by_cases h : g = k
      · have hb : (g == k) = true := beq_iff_eq.mpr h
        simp only [List.lookup, hb, if_neg (fun e : g = f => hk (h.symm.trans e))]
      · have hb : (g == k) = false := beq_eq_false_iff_ne.mpr h
        simp only [List.lookup, hb]
        exact ih
theorem keys_putF (f : Str) (v : V) : ∀ fs : List (Str × V), f ∈ (putF f v fs).map (·.1) ∧ ∀ g, g ∈ fs.map (·.1) → g ∈ (putF f v fs).map (·.1)
  | [] => ⟨by simp [putF], fun g h => by simp at h⟩
  | (k, x) :: r => by
    obtain ⟨i1, i2⟩ := keys_putF f v r
    rw [show putF f v ((k, x) :: r) = (if k = f then (k, v) :: r else (k, x) :: putF f v r) from rfl]
    by_cases hk : k = f
    · rw [if_pos hk]
      subst hk
      exact ⟨by simp, fun g h => by simpa using h⟩
    · rw [if_neg hk]
      refine ⟨?_, fun g h => ?_⟩
      · rw [List.map_cons]
        exact List.mem_cons_of_mem _ i1
      · rw [List.map_cons] at h ⊢
        rcases List.mem_cons.mp h with e | e
        · exact List.mem_cons.mpr (.inl e)
        · exact List.mem_cons_of_mem _ (i2 g e)
theorem length_putF (f : Str) (v : V) : ∀ fs : List (Str × V), (putF f v fs).length ≤ fs.length + 1
  | [] => by simp [putF]
  | (k, x) :: r => by
    have ih := length_putF f v r
    rw [show putF f v ((k, x) :: r) = (if k = f then (k, v) :: r else (k, x) :: putF f v r) from rfl]
    by_cases hk : k = f
    · rw [if_pos hk, List.length_cons, List.length_cons]; omega
    · rw [if_neg hk, List.length_cons, List.length_cons]; omega

theorem RelO.some_of {v : V} {o : Option Value} (r : RelO (some v) o) : ∃ u, o = some u ∧ RelV v u := by
  cases o with
  | none => exact (show False from r).elim
  | some u => exact ⟨u, rfl, r⟩
theorem handed_of {v : V} {u : Value} (r : RelV v u) : PySem.W.handedIn u = true := by
  cases v with
  | non => cases (show u = Value.none from r); rfl
  | bl b => cases (show u = Value.bool b from r); rfl
  | int i => obtain ⟨t, e⟩ := (show ∃ t, u = Value.int i t from r); cases e; rfl
  | str x => obtain ⟨t, e⟩ := (show ∃ t, u = Value.str x t from r); cases e; rfl
  | byt b => obtain ⟨t, e⟩ := (show ∃ t, u = Value.bytes b t from r); cases e; rfl
  | flt b => obtain ⟨t, e⟩ := (show ∃ t, u = Value.float b t from r); cases e; rfl
  | ref a => cases (show u = Value.ref a from r); rfl
  | ty n => cases (show u = Value.type n from r); rfl

section
variable {P : Program} {w : World} {H H' : Hp} {h h' : Heap} {a C dx : Addr} {fs fs' : List (Str × V)}
theorem ins_get (hok : HOk P w H h) (e : H a = some (.ins C dx fs)) : ∃ mA, ObjM h a dx C mA ∧ (∀ f, RelO (fs.lookup f) (mA f)) ∧ PySem.Within mA (fs.map (·.1)) ∧ fs.length ≤ 1000 ∧ H dx = some (.own a) := by
  obtain ⟨d, z, ne, ob, mA, n, r, q⟩ := (show ObjOk P w H h a (.ins C dx fs) from hok a _ e)
  exact ⟨mA, ⟨ob, n, ne⟩, r, q, z, d⟩
end

/-! ### what of the text a class must have -/
structure Cls (K : PySem.W.Frag) (C : Addr) : Prop where
  pg : PySem.W.plainGet K C Str.empty = true
  hd : PySem.W.hasDictIn K C = true
  po : PySem.W.plainOver K C = true
  sa : PySem.W.findIn K (.ref C) "__setattr__" = some (some (.builtin "object.__setattr__"))
theorem Cls.get {K : PySem.W.Frag} {C : Addr} (c : Cls K C) (f : Str) : PySem.W.plainGet K C f = true := c.pg
/-- no class of it has the name -/
def NoAttr (K : PySem.W.Frag) (C : Addr) (f : Str) : Prop := PySem.W.findIn K (.ref C) f = some none
theorem NoAttr.taker {K : PySem.W.Frag} {C : Addr} {f : Str} (n : NoAttr K C f) : PySem.W.takerIn K C f = some none := by
  unfold PySem.W.takerIn
  rw [show PySem.W.findIn K (.ref C) f = some none from n]
  rfl
section
variable {X : Cx} {pins : List (Addr × Obj)} {σ : St} {H : Hp} {s : Shared} {a C dx : Addr} {fs : List (Str × V)} {f : Str} {v : V} {A : Around} {E : Value → Shared → Prop}

theorem getattr_ok {b : Bool} {Q : Value → Shared → Prop} (I : Inv X pins σ H s) (e : H a = some (.ins C dx fs)) (c : Cls X.K C) (n : NoAttr X.K C f) (l : fs.lookup f = some v)
    (h : ∀ u s', Inv X pins σ H s' → RelV v u → Q u s') : wpAny (model X.prog X.w) A (getAttr (.ref a) f b) Q E s := by
  obtain ⟨mA, O, r, _, _, _⟩ := ins_get I.hok e
  obtain ⟨u, hu, ru⟩ := RelO.some_of (v := v) (o := mA f) (by rw [← l]; exact r f)
  exact get_map I.kIn O (c.get f) c.hd n hu (handed_of ru) (h u _ (I.tok _) ru)

theorem setattr_ok {y : V} {u : Value} {Q : Unit → Shared → Prop} (I : Inv X pins σ H s) (e : H a = some (.ins C dx fs)) (c : Cls X.K C) (n : NoAttr X.K C f) (hl : fs.length < 1000) (ry : RelV y u)
    (h : ∀ s', Inv X pins σ (upd H a (.ins C dx (putF f y fs))) s' → Q () s') : wpAny (model X.prog X.w) A (setAttr (.ref a) f u) Q E s := by
  obtain ⟨mA, O, r, wi, _, ho⟩ := ins_get I.hok e
  have hz : (fs.map (·.1)).length ≤ sizeLine := by rw [List.length_map, sizeLine_eq]; omega
  refine set_map I.kIn O c.sa c.po n.taker c.hd wi hz fun h' O' sb => h _ ?_
  have hd : ∃ o, h'.get? dx = some o := let ⟨o, _, _, e', _⟩ := O'.ns; ⟨o, e'⟩
  refine I.write (x := a) (e := dx) (by rw [e]; exact True.intro) (.inr ho) (fun b q hb z => (sb.2 b hb).trans z) hd ?_
  refine ⟨by rw [upd_ne O.ne]; exact ho, ?_, O.ne, O'.obj, _, O'.ns, fun g => ?_, fun g hg => ?_⟩
  · have := length_putF f y fs; omega
  · show RelO ((putF f y fs).lookup g) (if g = f then some u else mA g)
    rw [lookup_putF]
    by_cases q : g = f
    · rw [if_pos q, if_pos q]; exact ry
    · rw [if_neg q, if_neg q]; exact r g
  · by_cases q : g = f
    · rw [q]; exact (keys_putF f y fs).1
    · refine (keys_putF f y fs).2 g (wi g fun z => hg ?_)
      show (if g = f then some u else mA g) = none
      rw [if_neg q]; exact z

/-- a new instance, tracked, without attributes -/
theorem Inv.made (I : Inv X pins σ H s) : Inv X pins σ (upd (upd H s.heap.objs.size (.own (s.heap.objs.size + 1))) (s.heap.objs.size + 1) (.ins C s.heap.objs.size []))
    { s with heap := (s.heap.push PySem.W.emptyDict).push (PySem.W.instObj C s.heap.objs.size) } := by
  have e1 : (s.heap.push PySem.W.emptyDict).get? s.heap.objs.size = some PySem.W.emptyDict := Heap.get?_push_size s.heap rfl
  have e2 : ((s.heap.push PySem.W.emptyDict).push (PySem.W.instObj C s.heap.objs.size)).get? (s.heap.objs.size + 1) = some (PySem.W.instObj C s.heap.objs.size) := by
    have := Heap.get?_push_size (s.heap.push PySem.W.emptyDict) (o := PySem.W.instObj C s.heap.objs.size) rfl
    rwa [Heap.size_push] at this
  have e3 : (s.heap.push PySem.W.emptyDict).Ns s.heap.objs.size (fun _ => none) := ⟨PySem.W.emptyDict, #[], _, e1, rfl, (fun e he => absurd he (by simp)), fun _ => rfl⟩
  have I1 := I.laid (a := s.heap.objs.size) (o := .own (s.heap.objs.size + 1)) (h' := s.heap.push PySem.W.emptyDict) (t' := s.toks) (fun b u q => Heap.get?_push_of_some _ q) (Nat.le_refl _) ⟨_, e1⟩
  refine I1.laid (a := s.heap.objs.size + 1) (o := .ins C s.heap.objs.size []) (t' := s.toks) (fun b u q => Heap.get?_push_of_some _ q) (Nat.le_of_eq (Heap.size_push _ _)) ?_
  have ne : s.heap.objs.size ≠ s.heap.objs.size + 1 := Nat.ne_of_lt (Nat.lt_succ_self _)
  refine ⟨by rw [upd_ne ne, upd_same], Nat.zero_le _, ne, e2, fun _ => none, (Heap.Ns1.of_empty e3).at fun o q => Heap.get?_push_of_some _ q, fun _ => True.intro, fun y hy => absurd rfl hy⟩

/-- e.f where nothing but the object is asked: through attributeBase (super) and the last hold -/
theorem attr_of {prog : Program} {w : World} {env : Env} {e : Expr} {f : Str} {pos : Pos} {s : Shared} {Q : Value → Shared → Prop} (hb : attributeBase e f env (eval e env) = eval e env)
    (h : wpAny (model prog w) A (eval e env) (fun o s₁ => wpAny (model prog w) A (getAttr o f true) Q E s₁) E s) : wpAny (model prog w) A (eval (.Attribute e f pos) env) Q E s :=
  Attribute_any_ h (by rw [arm_eval_Attribute, hb])
end

/-! ### readings and rules -/
/-- e.f, an attribute of the instance -/
def tFld (K : PySem.W.Frag) (ta : TE) (f : Str) : TE := fun σ H Q => ta σ H fun x H1 => ∃ a C dx fs v, x = .ref a ∧ H1 a = some (.ins C dx fs) ∧ Cls K C ∧ NoAttr K C f ∧ fs.lookup f = some v ∧ Q v H1
/-- e.f = value -/
def sFld (K : PySem.W.Frag) (ta tv : TE) (f : Str) : TS := fun D σ H => tv σ H fun y H1 => ta σ H1 fun x H2 => ∃ a C dx fs, x = .ref a ∧ H2 a = some (.ins C dx fs) ∧ Cls K C ∧ NoAttr K C f ∧ fs.length < 1000 ∧
  D.nx σ (upd H2 a (.ins C dx (putF f y fs)))
section
variable {X : Cx} {o e value : Expr} {f : Str} {pos pos' tpos : Pos} {ta tv : TE}
theorem pe_fld (he : PE X e ta) (hb : attributeBase e f X.env (eval e X.env) = eval e X.env) : PE X (.Attribute e f pos) (tFld X.K ta f) := by
  intro pins s σ H Q I h
  refine attr_of hb (thn (he pins s σ H _ I h) fun u s1 ⟨x, H1, I1, rx, a, C, dx, fs, v, ex, ea, c, n, l, q⟩ => ?_)
  subst ex
  obtain rfl : u = Value.ref a := rx
  exact getattr_ok I1 ea c n l fun u' s2 I2 ru => ⟨v, H1, I2, ru, q⟩
theorem ps_fld (ha : PE X o ta) (hv : PE X value tv) (hs : swapsWith value (some (.Attribute o f pos')) pos.line X.env = pure false) : PS X (.Assign [.Attribute o f pos'] value pos) (sFld X.K ta tv f) := by
  intro pins s σ H D I h
  refine plainObj_wpAny_Assign_Attribute (thn (hv pins s σ H _ I h) fun u s1 ⟨y, H1, I1, ry, q⟩ => thn (ha pins s1 σ H1 _ I1 q) fun ov s2 ⟨x, H2, I2, rx, a, C, dx, fs, ex, ea, c, n, l, q2⟩ => ?_) hs
  subst ex
  obtain rfl : ov = Value.ref a := rx
  exact setattr_ok I2 ea c n l ry fun s3 I3 => ⟨σ, _, I3, q2⟩
end

/-! ### isinstance -/
section
variable {X : Cx} {pins : List (Addr × Obj)} {σ : St} {H : Hp} {s : Shared} {A : Around} {E : Value → Shared → Prop} {Q : Value → Shared → Prop} {c : Value} {b : Bool}
end
end L2

namespace L2
open PySem PySem.Spec PyProof.Rows

/-! ### room -/
structure Room (k : Nat) (A : Around) : Prop where
  hd : A.handled = none
  dp : A.depth + 3 * k + 5 < recursionLimit
  un : A.units + 16 * k + 200 < cLine
theorem Room.mono {j k : Nat} {A : Around} (r : Room k A) (h : j ≤ k) : Room j A := ⟨r.hd, by have := r.dp; omega, by have := r.un; omega⟩
theorem Room.deeper {k : Nat} {A : Around} (r : Room (k + 1) A) (env : Env) : Room k (A.deeper env) :=
  ⟨r.hd, by have := r.dp; show A.depth + 1 + 3 * k + 5 < _; omega, by have := r.un; show A.units + 3 + 16 * k + 200 < _; omega⟩
theorem make_depth {A : Around} {C : Addr} {us : List Value} {kw : List (Str × Value)} : (A.under (.builtin "type.__call__" ⟨.ref C :: us, kw⟩)).depth = A.depth + 1 := by
  first | rfl | simp [Around.under, Code.weight, Code.isCreation, Code.isGuard, Code.isCaller, Code.frames, Code.isFrame, guardIds]
theorem make_units {A : Around} {C : Addr} {us : List Value} {kw : List (Str × Value)} : (A.under (.builtin "type.__call__" ⟨.ref C :: us, kw⟩)).units = A.units + 1 := by
  first | rfl | simp [Around.under, Code.cUnits, Code.frames, Code.isFrame]
theorem Room.make {k : Nat} {A : Around} (r : Room (k + 1) A) (C : Addr) (us : List Value) (kw : List (Str × Value)) : Room k (A.under (.builtin "type.__call__" ⟨.ref C :: us, kw⟩)) :=
  ⟨r.hd, by have := r.dp; rw [make_depth]; omega, by have := r.un; rw [make_units]; omega⟩
theorem Room.depth {k : Nat} {A : Around} (r : Room k A) : A.depth < recursionLimit := by have := r.dp; omega
theorem Room.units {k : Nat} {A : Around} (r : Room k A) : A.units + 64 < cLine := by have := r.un; omega
/-! ### argument lists and displays -/
def tNil : TA := fun _ H Q => Q [] H
def tCons (ta : TE) (tr : TA) : TA := fun σ H Q => ta σ H fun x H1 => tr σ H1 fun xs H2 => Q (x :: xs) H2
section
variable {X : Cx} {e : Expr} {es : List Expr} {te : TE} {t : TA} {pos : Pos}
theorem pa_nil : PA X [] tNil := fun _ _ _ _ H Q I h => Calls.spliced_nil ⟨[], H, I, .nil, h⟩
theorem pa_cons (ha : PE X e te) (hr : PA X es t) (hs : starEach (e :: es) X.env = (false, eval e X.env) :: starEach es X.env := by rfl) : PA X (e :: es) (tCons te t) := by
  intro pos pins s σ H Q I h
  rw [hs]
  show wpAny _ _ (spliced ((false, eval e X.env) :: backTo pos (starEach es X.env))) _ _ s
  refine Calls.spliced_cons (thn (ha pins s σ H _ I h) fun u s1 ⟨x, H1, I1, r1, q1⟩ => ?_)
  exact thn (hr pos pins s1 σ H1 _ I1 q1) fun us s2 ⟨xs, H2, I2, r2, q2⟩ => ⟨x :: xs, H2, I2, .cons r1 r2, q2⟩

def tLst (t : TA) : TE := fun σ H Q => t σ H fun xs H1 => xs.length ≤ sizeLine ∧ ∀ p, H1 p = none → Q (.ref p) (upd H1 p (.lst xs))
theorem pe_lst (h : PA X es t) : PE X (.List es pos) (tLst t) := by
  intro pins s σ H Q I hq
  refine wpAny_List_spliced (thn (h pos pins s σ H _ I hq) fun us s1 ⟨xs, H1, I1, r, z, q⟩ => ⟨by rw [← r.length]; exact z, ?_⟩)
  have hf : H1 s1.heap.objs.size = none := I1.hok.fresh (Nat.le_refl _)
  refine ⟨.ref s1.heap.objs.size, upd H1 s1.heap.objs.size (.lst xs), I1.laid (t' := s1.toks) (fun b u e => Heap.get?_push_of_some _ e) (Nat.le_refl _) ?_, rfl, q _ hf⟩
  exact ⟨z, us, 0, r, Heap.get?_push_size _ rfl⟩
end

/-! ### what a def promises -/
/-- a def's promise: the bound arguments in the parameters' order, the heap, the wanted end, the wanted exception -/
abbrev Sp := List V → Hp → VK → XK → Prop
/-- how an exception lies behind a call (file 08 gives it): the callers' frames, abstract heap and state ahead of the call, the wish, the exception, the state -/
abbrev CXT := List Env → Hp → Shared → XK → Value → Shared → Prop

/-- the state at a call -/
structure Env0 (P : Program) (w : World) (K : PySem.W.Frag) (mg : Str → Option Value) (base : Heap) (A : Around) (outer : List Env) (s : Shared) (H : Hp) : Prop where
  frames : A.frames = some outer
  mod : Mod K mg base
  bs : ∀ b o, base.get? b = some o → s.heap.get? b = some o ∧ H b = none
  bsz : base.objs.size ≤ s.heap.objs.size
  funs : s.heap.FunFrames base outer
  frf : ∀ b ∈ frs outer, H b = none
  hok : HOk P w H s.heap
  bare : AllBare s.gens
/-- a call's end -/
def CE (outer : List Env) (P : Program) (w : World) (H : Hp) (s : Shared) (Q : VK) (u : Value) (s' : Shared) : Prop :=
  ∃ v H', s'.os = s.os ∧ AllBare s'.gens ∧ Un (frs outer) [] H H' s.heap s'.heap ∧ HOk P w H' s'.heap ∧ RelV v u ∧ Q v H'
def CR (CX : CXT) (outer : List Env) (P : Program) (w : World) (H : Hp) (s : Shared) (Q : VK) (E : XK) (r : Result) (s' : Shared) : Prop :=
  match r with
  | .ok (.ret u) => CE outer P w H s Q u s'
  | .ok _ => False
  | .error e => CX outer H s E e s'
structure FnOk (P : Program) (w : World) (K : PySem.W.Frag) (mg : Str → Option Value) (base : Heap) (CX : CXT) (k : Nat) (f : Addr) (fd : FuncData) (ps : List Str) (sp : Sp) : Prop where
  len : ∀ vs H Q E, sp vs H Q E → vs.length = ps.length
  run : ∀ (A : Around) (outer : List Env) (s : Shared) (H : Hp) (args : Args) (us : List Value) (vs : List V) (Q : VK) (E : XK), Room k A → Env0 P w K mg base A outer s H → BindsTo s fd args (ps.zip us) → Vals vs us → sp vs H Q E →
    codeAny (model P w) A (.call (.ref f) args) (CR CX outer P w H s Q E) s
theorem Env0.make {P : Program} {w : World} {K : PySem.W.Frag} {mg : Str → Option Value} {base : Heap} {A : Around} {outer : List Env} {s : Shared} {H : Hp} (e : Env0 P w K mg base A outer s H) (C : Addr) (us : List Value) (kw : List (Str × Value)) :
    Env0 P w K mg base (A.under (.builtin "type.__call__" ⟨.ref C :: us, kw⟩)) outer s H := ⟨by first | exact e.frames | (simpa [Around.under, Code.envs, Code.isFrame, pushEnvs] using e.frames), e.mod, e.bs, e.bsz, e.funs, e.frf, e.hok, e.bare⟩
section
variable {X : Cx} {pins : List (Addr × Obj)} {σ : St} {H : Hp} {s s' : Shared}
/-- from a body: what a callee wants -/
theorem Inv.env0 (I : Inv X pins σ H s) : Env0 X.prog X.w X.K X.mg X.base X.A X.stack s H :=
  ⟨I.ok.frames, I.ok.mod, I.bs, Nat.le_trans I.ok.bsz I.sz, I.stack, I.stkFree, I.hok, I.bare⟩
/-- behind a call -/
theorem Inv.after {Q : VK} {u : Value} (I : Inv X pins σ H s) (h : CE X.stack X.prog X.w H s Q u s') : EP X pins σ Q u s' := by
  obtain ⟨v, H', os, bare, un, hok, r, q⟩ := h
  obtain ⟨hh, g, d, t, os'⟩ := s'
  obtain rfl : os' = s.os := os
  exact ⟨v, H', I.call (h' := hh) (g' := g) (d' := d) (t' := t) (ch := []) un hok bare (fun b z => absurd z (by simp)), r, q⟩
end

/-! ### calls -/
/-- f(..): the written arguments, then the defaults dvs; E: what is wanted of an exception -/
def tCall (sp : Sp) (dvs : List V) (E : XK) (t : TA) : TE := fun σ H Q => t σ H fun vs H1 => sp (vs ++ dvs) H1 Q E
/-- C(..): a new instance and its dict, then __init__ -/
def tMake (C : Addr) (sp : Sp) (dvs : List V) (E : XK) (t : TA) : TE := fun σ H Q => t σ H fun vs H1 => ∀ x dx, H1 x = none → H1 dx = none → dx ≠ x →
  sp (.ref x :: (vs ++ dvs)) (upd (upd H1 dx (.own x)) x (.ins C dx [])) (fun v H2 => v = .non ∧ Q (.ref x) H2) E

/-- how the parameters are bound: us the positional arguments, kw the keywords' values by name, ds the defaults that fill up -/
def Binds (K : PySem.W.Frag) (fd : FuncData) (ps : List Str) (ds : List Value) : Prop :=
  ∀ (s : Shared) (us : List Value), K.In s.heap → (us ++ ds).length = ps.length → BindsTo s fd ⟨us, []⟩ (ps.zip (us ++ ds))
/-- every parameter is given -/
theorem Binds.all {K : PySem.W.Frag} {fd : FuncData} {ps : List Str} (h : ∀ us : List Value, us.length = ps.length → bindArgs fd ⟨us, []⟩ = pure (ps.zip us)) : Binds K fd ps [] := fun s us _ hl => by
  rw [List.append_nil] at hl ⊢
  exact .of_eq (h us hl)

/-- an exception of a callee reaches what this body wants of exceptions -/
def Passes (CX : CXT) (X : Cx) (E : XK) : Prop := ∀ (pins : List (Addr × Obj)) (σ : St) (H : Hp) (s : Shared) (e : Value) (s' : Shared), Inv X pins σ H s → CX X.stack H s E e s' → X.xe e s'

section
variable {X : Cx} {CX : CXT} {k : Nat} {f C : Addr} {fd : FuncData} {ps : List Str} {sp : Sp} {dvs : List V} {ds : List Value} {E : XK} {x m : Str} {p pos apos : Pos} {e o : Expr} {es : List Expr} {ta : TE} {t : TA}

/-- the callee runs -/
theorem run_fn {pins : List (Addr × Obj)} {σ : St} {H : Hp} {s : Shared} {Q : VK} {us : List Value} {vs : List V} (F : FnOk X.prog X.w X.K X.mg X.base CX k f fd ps sp) (hr : Room k X.A) (hb : Binds X.K fd ps ds) (hd : Vals dvs ds) (hx : Passes CX X E)
    (I : Inv X pins σ H s) (r : Vals vs us) (h : sp (vs ++ dvs) H Q E) : wpAny (model X.prog X.w) X.A (call (.ref f) us) (EP X pins σ Q) X.xe s := by
  have r2 : Vals (vs ++ dvs) (us ++ ds) := r.append hd
  have hl : (us ++ ds).length = ps.length := by rw [← r2.length]; exact F.len _ _ _ _ h
  refine wpAny_call (codeAny_mono (F.run X.A X.stack s H ⟨us, []⟩ (us ++ ds) (vs ++ dvs) Q E hr I.env0 (hb s us I.kIn hl) r2 h) fun r s' hq => ?_)
  cases r with
  | error e => exact hx pins σ H s e s' I hq
  | ok fl =>
    cases fl with
    | ret u => exact I.after hq
    | next => exact False.elim hq
    | brk => exact False.elim hq
    | cont => exact False.elim hq

theorem pe_call (F : FnOk X.prog X.w X.K X.mg X.base CX k f fd ps sp) (hr : Room k X.A) (hg : Gl X x) (hm : X.mg x = some (.ref f)) (hk : PySem.W.keepIn X.K (.ref f) = true) (hb : Binds X.K fd ps ds) (hd : Vals dvs ds) (hx : Passes CX X E)
    (ha : PA X (e :: es) t) (hdb : (x == ("__debug__" : Str)) = false := by decide) (he : starEach (e :: es) X.env = (false, eval e X.env) :: starEach es X.env := by rfl) (hpl : (backTo pos (starEach es X.env)).any (·.1) = false := by rfl) :
    PE X (.Call (.Name x p) (e :: es) [] pos) (tCall sp dvs E t) := by
  intro pins s σ H Q I h
  refine wpAny_Call_Name_kw (ld_glob I hg hm ?_ hdb)
  refine PySem.W.callWith_K (h₀ := X.base) I.ok.mod.kin hk (thn (ha pos pins s σ H _ I h) fun us s1 ⟨vs, H1, I1, r, q⟩ => ⟨I1.kIn, ?_⟩) he hpl
  exact run_fn F hr hb hd hx I1 r q
theorem pe_call0 (F : FnOk X.prog X.w X.K X.mg X.base CX k f fd ps sp) (hr : Room k X.A) (hg : Gl X x) (hm : X.mg x = some (.ref f)) (hk : PySem.W.keepIn X.K (.ref f) = true) (hb : Binds X.K fd ps ds) (hd : Vals dvs ds) (hx : Passes CX X E)
    (hdb : (x == ("__debug__" : Str)) = false := by decide) : PE X (.Call (.Name x p) [] [] pos) (tCall sp dvs E tNil) := by
  intro pins s σ H Q I h
  refine wpAny_Call_Name_kw (ld_glob I hg hm ?_ hdb)
  exact PySem.W.callWith_K0 I.kIn hk (run_fn (us := []) F hr hb hd hx I .nil h)

/-- what a class must have to be made -/
structure Mk (K : PySem.W.Frag) (C f : Addr) : Prop where
  makes : PySem.W.makesIn K C = true
  init : PySem.W.findIn K (.ref C) "__init__" = some (some (.ref f))
  fn : PySem.W.isFn K (.ref f) = true
  kp : PySem.W.keepIn K (.ref C) = true

theorem run_make {pins : List (Addr × Obj)} {σ : St} {H : Hp} {s : Shared} {Q : VK} {us : List Value} {vs : List V} (M : Mk X.K C f) (F : FnOk X.prog X.w X.K X.mg X.base CX k f fd ps sp) (hr : Room (k + 1) X.A) (hb : Binds X.K fd ps ds) (hd : Vals dvs ds)
    (hx : Passes CX X E) (I : Inv X pins σ H s) (r : Vals vs us)
    (h : ∀ x dx, H x = none → H dx = none → dx ≠ x → sp (.ref x :: (vs ++ dvs)) (upd (upd H dx (.own x)) x (.ins C dx [])) (fun v H2 => v = .non ∧ Q (.ref x) H2) E) :
    wpAny (model X.prog X.w) X.A (call (.ref C) us) (EP X pins σ Q) X.xe s := by
  have hq := h (s.heap.objs.size + 1) s.heap.objs.size (I.hok.fresh (Nat.le_succ _)) (I.hok.fresh (Nat.le_refl _)) (Nat.ne_of_lt (Nat.lt_succ_self _))
  have I2 := Inv.made (C := C) I
  have r2 : Vals (V.ref (s.heap.objs.size + 1) :: (vs ++ dvs)) (Value.ref (s.heap.objs.size + 1) :: (us ++ ds)) := .cons rfl (r.append hd)
  have hl : (Value.ref (s.heap.objs.size + 1) :: us ++ ds).length = ps.length := by
    have e := r2.length
    rw [F.len _ _ _ _ hq] at e
    exact e.symm
  refine wpAny_call (make_map (f := f) I.kIn M.makes M.init (beq_iff_eq.mp M.fn) (codeAny_mono (F.run _ X.stack _ _ ⟨Value.ref (s.heap.objs.size + 1) :: us, []⟩ (Value.ref (s.heap.objs.size + 1) :: (us ++ ds)) _ _ E (hr.make C us [])
    (I2.env0.make C us []) (hb _ (Value.ref (s.heap.objs.size + 1) :: us) I2.kIn hl) r2 hq) fun r s' hq' => ?_))
  cases r with
  | error e => exact hx pins σ _ _ e s' I2 hq'
  | ok fl =>
    cases fl with
    | ret u =>
      obtain ⟨v, H', I3, rv, ev, q3⟩ := I2.after hq'
      subst ev
      exact ⟨rv, ⟨V.ref (s.heap.objs.size + 1), H', I3, rfl, q3⟩⟩
    | next => exact False.elim hq'
    | brk => exact False.elim hq'
    | cont => exact False.elim hq'
theorem pe_make (M : Mk X.K C f) (F : FnOk X.prog X.w X.K X.mg X.base CX k f fd ps sp) (hr : Room (k + 1) X.A) (hg : Gl X x) (hm : X.mg x = some (.ref C)) (hb : Binds X.K fd ps ds) (hd : Vals dvs ds) (hx : Passes CX X E)
    (ha : PA X (e :: es) t) (hdb : (x == ("__debug__" : Str)) = false := by decide) (he : starEach (e :: es) X.env = (false, eval e X.env) :: starEach es X.env := by rfl) (hpl : (backTo pos (starEach es X.env)).any (·.1) = false := by rfl) :
    PE X (.Call (.Name x p) (e :: es) [] pos) (tMake C sp dvs E t) := by
  intro pins s σ H Q I h
  refine wpAny_Call_Name_kw (ld_glob I hg hm ?_ hdb)
  refine PySem.W.callWith_K (h₀ := X.base) I.ok.mod.kin M.kp (thn (ha pos pins s σ H _ I h) fun us s1 ⟨vs, H1, I1, r, q⟩ => ⟨I1.kIn, ?_⟩) he hpl
  exact run_make M F hr hb hd hx I1 r q
end

/-! ### keywords -/
section
variable {X : Cx} {CX : CXT} {k : Nat} {f C : Addr} {fd : FuncData} {ps ks : List Str} {sp : Sp} {E : XK} {x m : Str} {p pos apos kpos : Pos} {e o : Expr} {es : List Expr} {kws : List Keyword} {te ta : TE} {t tk : TA} {nm : Option Str}
variable {g : List Value → List Value → List Value} {gV : List V → List V → List V}
end

/-! ### a def's body keeps its promise -/
/-- names: the parameters first -/
structure FnScope (N P : List Str) (sc : Scope) : Prop where
  kind : sc.kind = .function
  co : sc.isCoroutine = false
  gen : sc.isGenerator = false
  nd : N.Nodup
  pre : N.take P.length = P
  par : ∀ x ∈ P, sc.names.lookup x = some .local ∨ sc.names.lookup x = some .cell
  nofree : ∀ y ∈ sc.names, y.2 ≠ .free

theorem bindL_out {kindOf : Str → Option NameKind} {x : Str} : ∀ {binds : List (Str × Value)} {m : Str → Option Value}, (∀ v, (x, v) ∉ binds) → bindL kindOf binds m x = m x
  | [], _, _ => rfl
  | (n, v) :: r, m, h => by
    unfold bindL
    rw [bindL_out fun w hw => h w (List.mem_cons_of_mem _ hw)]
    split
    · have : x ≠ n := by rintro rfl; exact h v List.mem_cons_self
      simp [this]
    · rfl
theorem bindC_out {kindOf : Str → Option NameKind} {x : Str} : ∀ {binds : List (Str × Value)} {m : Str → Option Value}, (∀ v, (x, v) ∉ binds) → bindC kindOf binds m x = m x
  | [], _, _ => rfl
  | (n, v) :: r, m, h => by
    unfold bindC
    rw [bindC_out fun w hw => h w (List.mem_cons_of_mem _ hw)]
    split
    · rfl
    · have : x ≠ n := by rintro rfl; exact h v List.mem_cons_self
      simp [this]
theorem bindL_get {kindOf : Str → Option NameKind} {x : Str} {v : Value} : ∀ {P : List Str} {vs : List Value} {i : Nat} {m : Str → Option Value}, P.Nodup → P[i]? = some x → vs[i]? = some v → kindOf x = some .local →
    bindL kindOf (P.zip vs) m x = some v
  | [], _, _, _, _, h, _, _ => by simp at h
  | _ :: _, [], _, _, _, _, h, _ => by simp at h
  | p :: P, w :: vs, 0, m, nd, h1, h2, hk => by
    simp at h1 h2; subst h1; subst h2
    show bindL kindOf ((p, w) :: P.zip vs) m p = _
    unfold bindL
    rw [bindL_out fun v hv => (List.nodup_cons.mp nd).1 (List.of_mem_zip hv).1, if_pos hk]
    simp
  | p :: P, w :: vs, i + 1, m, nd, h1, h2, hk => by
    show bindL kindOf ((p, w) :: P.zip vs) m x = _
    unfold bindL
    exact bindL_get (i := i) (List.nodup_cons.mp nd).2 (by simpa using h1) (by simpa using h2) hk
theorem bindC_get {kindOf : Str → Option NameKind} {x : Str} {v : Value} : ∀ {P : List Str} {vs : List Value} {i : Nat} {m : Str → Option Value}, P.Nodup → P[i]? = some x → vs[i]? = some v → kindOf x ≠ some .local →
    bindC kindOf (P.zip vs) m x = some v
  | [], _, _, _, _, h, _, _ => by simp at h
  | _ :: _, [], _, _, _, _, h, _ => by simp at h
  | p :: P, w :: vs, 0, m, nd, h1, h2, hk => by
    simp at h1 h2; subst h1; subst h2
    show bindC kindOf ((p, w) :: P.zip vs) m p = _
    unfold bindC
    rw [bindC_out fun v hv => (List.nodup_cons.mp nd).1 (List.of_mem_zip hv).1, if_neg hk]
    simp
  | p :: P, w :: vs, i + 1, m, nd, h1, h2, hk => by
    show bindC kindOf ((p, w) :: P.zip vs) m x = _
    unfold bindC
    exact bindC_get (i := i) (List.nodup_cons.mp nd).2 (by simpa using h1) (by simpa using h2) hk

/-- the names' values at the entry -/
def start (N : List Str) (vs : List V) : St := vs.map some ++ List.replicate (N.length - vs.length) none

/-- the context of a def's body, at its entry; an exception leaves the frame, then lies as CX says -/
def cxOf (CX : CXT) (P : Program) (w : World) (K : PySem.W.Frag) (mg : Str → Option Value) (base : Heap) (N : List Str) (qual : Str) (scope : Scope) (f : Addr) (cd : Value) (A : Around) (outer : List Env) (s : Shared) (H : Hp) (E : XK) : Cx where
  prog := P
  w := w
  K := K
  mg := mg
  base := base
  A := A.deeper (envOfC qual scope s.heap.objs.size f cd)
  N := N
  s_0 := s
  H_0 := H
  env := envOfC qual scope s.heap.objs.size f cd
  outer := outer
  stack := envOfC qual scope s.heap.objs.size f cd :: outer
  ex := []
  calm := true
  fn := fun _ => true
  pn := []
  xe := fun e s' => wpAny (model P w) (A.deeper (envOfC qual scope s.heap.objs.size f cd)) (leaving (envOfC qual scope s.heap.objs.size f cd) e) (fun _ s'' => CX outer H s E e s'') (fun e' s'' => CX outer H s E e' s'') s'

theorem cell_has {sc : Scope} {n : Nat} {x : Str} (h : sc.names.lookup x = some .cell) : ∃ c, (cellsFrom n sc.names []).lookup x = some c := by
  have q := PySem.W.cellsFrom_some sc.names n [] (.inl h)
  exact Option.isSome_iff_exists.mp q

theorem inv_start {CX : CXT} {P : Program} {w : World} {K : PySem.W.Frag} {mg : Str → Option Value} {base : Heap} {N ps : List Str} {qual : Str} {scope : Scope} {f : Addr} {cd : Value} {A : Around} {outer : List Env} {s s1 : Shared} {H : Hp} {E : XK} {us : List Value} {vs : List V}
    (S : FnScope N ps scope) (hd : A.handled = none) (e0 : Env0 P w K mg base A outer s H) (hl : vs.length = ps.length) (r : Vals vs us)
    (x : InCallC s s.heap.objs.size (bindL (envOfC qual scope s.heap.objs.size f cd).kindOf (ps.zip us) fun _ => none) (cellsFrom (s.heap.objs.size + 1) scope.names []) (bindC (envOfC qual scope s.heap.objs.size f cd).kindOf (ps.zip us) fun _ => none) s1) :
    Inv (cxOf CX P w K mg base N qual scope f cd A outer s H E) [] (start N vs) H s1 := by
  have hpl : ps.length ≤ N.length := by have := congrArg List.length S.pre; rw [List.length_take] at this; omega
  obtain ⟨h1, tk, rfl, hk⟩ := x.done
  have noA : ∀ b : Addr, b ∉ (cxOf CX P w K mg base N qual scope f cd A outer s H E).ex := fun b z => absurd (show b ∈ ([] : List Addr) from z) (by simp)
  refine ⟨⟨e0.mod, S.kind, rfl, rfl, Nat.le_refl _, fun y z c h1 h2 => ?_, fun y hy => ?_, fun y c _ h => ?_, fun _ => hd, Around.frames_deeper e0.frames, .inr ⟨rfl, rfl⟩, fun b z => absurd z (noA b), e0.bs, e0.bsz, fun b _ _ => noA b, fun b z => absurd z (noA b), e0.funs, e0.frf⟩,
    rfl, e0.bare, Un.kept hk, ⟨_, x.toInCall.ns, fun i y v h1 h2 h3 => ?_⟩, fun y c h => ⟨_, x.cell y c h⟩, e0.hok.fresh (Nat.le_refl _), fun y c h => ?_, fun p hp => absurd (show p ∈ ([] : List (Addr × Obj)) from hp) (by simp), e0.hok.kept hk, ?_⟩
  · exact name_of_addr x.apart (PySem.mem_of_lookup h1) (PySem.mem_of_lookup h2)
  · have hy : scope.names.lookup y = some .cell ∨ scope.names.lookup y = some .free := hy
    rcases hy with hy | hy
    · exact cell_has hy
    · exact absurd rfl (S.nofree _ (PySem.mem_of_lookup hy))
  · exact Nat.le_of_lt (x.above y c (PySem.mem_of_lookup h))
  · have hi : i < vs.length := by
      unfold start at h2
      by_cases hi : i < vs.length
      · exact hi
      · rw [List.getElem?_append_right (by simpa using hi)] at h2
        rw [List.getElem?_replicate] at h2
        split at h2 <;> cases h2
    have ha : vs[i]? = some v := by
      unfold start at h2
      rw [List.getElem?_append_left (by simpa using hi), List.getElem?_map] at h2
      cases e : vs[i]? with
      | none => rw [e] at h2; cases h2
      | some a => rw [e] at h2; cases h2; rfl
    obtain ⟨u, hu, rv⟩ := r.get ha
    have hp : ps[i]? = some y := by
      rw [← S.pre, List.getElem?_take_of_lt (by omega)]; exact h1
    have ndP : ps.Nodup := by rw [← S.pre]; exact S.nd.sublist (List.take_sublist _ _)
    refine ⟨u, rv, ?_⟩
    rcases S.par y (List.mem_of_getElem? hp) with k | k
    · exact .inl ⟨k, bindL_get ndP hp hu k⟩
    · obtain ⟨c, e⟩ := cell_has (n := s.heap.objs.size + 1) k
      refine .inr ⟨.inl k, c, e, ?_⟩
      have q := x.cell y c e
      rw [bindC_get ndP hp hu (by show scope.names.lookup y ≠ _; rw [k]; decide)] at q
      exact q
  · exact e0.hok.fresh (Nat.le_of_lt (x.above y c (PySem.mem_of_lookup h)))
  · unfold start
    show _ = N.length
    rw [List.length_append, List.length_map, List.length_replicate]
    omega

/-- THE RULE: a def (or a method) of the text, by its body. The body's reading t is chosen for each entry; it is run at the parameters' values -/
theorem fn_of {CX : CXT} {P : Program} {w : World} {K : PySem.W.Frag} {mg : Str → Option Value} {base : Heap} {k : Nat} {f : Addr} {name qual : Str} {params : Arguments} {body : List Stmt} {scope : Scope} {dV kV doc pm cdv ct oc : Value} {an od : Option Addr}
    {osl : Array (Option Value)} {N ps : List Str} {sp : Sp} (lk : K.lookup f = some ⟨oc, od, .func (PySem.W.fnOf name qual params body scope dV kV doc pm an cdv ct), osl⟩) (hcd : PySem.W.codeIn K cdv qual = true) (S : FnScope N ps scope)
    (len : ∀ vs H Q E, sp vs H Q E → vs.length = ps.length)
    (hbody : ∀ (A : Around) (outer : List Env) (s : Shared) (H : Hp) (vs : List V) (Q : VK) (E : XK), Room k (A.deeper (envOfC qual scope s.heap.objs.size f cdv)) → sp vs H Q E →
      ∃ t, PSs (cxOf CX P w K mg base N qual scope f cdv A outer s H E) body t ∧ t { nx := fun _ H' => Q .non H', rt := Q } (start N vs) H) :
    FnOk P w K mg base CX (k + 1) f (PySem.W.fnOf name qual params body scope dV kV doc pm an cdv ct) ps sp := by
  refine ⟨len, fun A outer s H args us vs Q E hr e0 hb r hsp => ?_⟩
  have hl := len _ _ _ _ hsp
  have KX : K.In s.heap := e0.mod.kin.keeps fun b o e => (e0.bs b o e).1
  have lim : s.heap.NoLimit := e0.mod.nolimit.keeps fun b o e => (e0.bs b o e).1
  have hkind : ∀ y ∈ ps.zip us, scope.names.lookup y.1 = some .local ∨ (scope.names.lookup y.1 = some .cell ∧ ((cellsFrom (s.heap.objs.size + 1) scope.names []).lookup y.1).isSome = true) := fun ⟨n, v⟩ hy => by
    rcases S.par n (List.of_mem_zip hy).1 with q | q
    · exact .inl q
    · exact .inr ⟨q, PySem.W.cellsFrom_some _ _ _ (.inl q)⟩
  refine codeAny_call_function hr.depth (KX _ _ lk) rfl S.co S.gen rfl (PySem.W.codeRec_of KX hcd) (hb _ _ _ _ ?_)
  refine wpAny_newFunctionEnv_cells S.kind hkind fun env he s1 x => ?_
  subst he
  refine ⟨lim.keeps x.toInCall.keep, codeAny_func ?_⟩
  obtain ⟨t, ht, hq⟩ := hbody A outer s H vs Q E (hr.deeper _) hsp
  have I : Inv (cxOf CX P w K mg base N qual scope f cdv A outer s H E) [] (start N vs) H s1 := inv_start S hr.hd e0 hl r x
  refine wpAny_mono (ht [] s1 (start N vs) H _ I hq) (fun fl s' hs => ?_) fun e s' hs => hs
  have fin : ∀ {σ' : St} {H' : Hp} {v : V} {u : Value}, Inv (cxOf CX P w K mg base N qual scope f cdv A outer s H E) [] σ' H' s' → RelV v u → Q v H' → CE outer P w H s Q u s' :=
    fun {σ' H' v u} J rv q => ⟨v, H', J.os, J.bare, J.base, J.hok, rv, q⟩
  cases fl with
  | ret u =>
    obtain ⟨v, σ', H', J, rv, q⟩ := hs
    exact fin J rv q
  | next =>
    obtain ⟨σ', H', J, q⟩ := hs
    exact fin (v := V.non) (u := Value.none) J rfl q
  | brk =>
    obtain ⟨_, _, _, q⟩ := hs
    exact False.elim q
  | cont =>
    obtain ⟨_, _, _, q⟩ := hs
    exact False.elim q
end L2

namespace L2
open PySem PySem.Spec PyProof.Rows
section
variable {X : Cx} {x : Str} {p pos : Pos} {e : Expr} {es : List Expr} {t : TA} {id T : String} {r : List V → Hp → VK → Prop}

def tCB (r : List V → Hp → VK → Prop) (t : TA) : TE := fun σ H Q => t σ H fun vs H1 => r vs H1 Q
/-- f(e, ..), f a built-in function -/
theorem pe_callB (hc : CallR X (.builtin id) r) (hg : Gl X x) (hm : X.mg x = none) (hv : bootBuiltins x = some (.builtin id)) (ha : PA X (e :: es) t) (hn : x ≠ "__name__" := by decide) (hdb : (x == ("__debug__" : Str)) = false := by decide)
    (he : starEach (e :: es) X.env = (false, eval e X.env) :: starEach es X.env := by rfl) (hpl : (backTo pos (starEach es X.env)).any (·.1) = false := by rfl) : PE X (.Call (.Name x p) (e :: es) [] pos) (tCB r t) := by
  intro pins s σ H Q I h
  refine wpAny_Call_Name_kw (ld_blt I hg hm hv ?_ hn hdb)
  exact PyProof.Rows.callWith_builtin1 (thn (ha pos pins s σ H _ I h) fun us s1 ⟨vs, H1, I1, r1, q1⟩ => hc pins s1 σ H1 vs us Q I1 r1 q1) he hpl
/-- T(e, ..), T a built-in type -/
theorem pe_callTy (hc : CallR X (.type T) r) (hg : Gl X x) (hm : X.mg x = none) (hv : bootBuiltins x = some (.type T)) (ha : PA X (e :: es) t) (hn : x ≠ "__name__" := by decide) (hdb : (x == ("__debug__" : Str)) = false := by decide)
    (he : starEach (e :: es) X.env = (false, eval e X.env) :: starEach es X.env := by rfl) (hpl : (backTo pos (starEach es X.env)).any (·.1) = false := by rfl) : PE X (.Call (.Name x p) (e :: es) [] pos) (tCB r t) := by
  intro pins s σ H Q I h
  refine wpAny_Call_Name_kw (ld_blt I hg hm hv ?_ hn hdb)
  exact PyProof.Rows.callWith_type1 (thn (ha pos pins s σ H _ I h) fun us s1 ⟨vs, H1, I1, r1, q1⟩ => hc pins s1 σ H1 vs us Q I1 r1 q1) he hpl
end
end L2

namespace HT
open PySem PyProof.Rows

section
open PySem.SeqAt
open PySem.AutoSeq1 (wpAny_loadPart')
open PySem.MeetsSeq PySem.MeetsSeq2 PySem.MeetsSeq3

end

section
variable {prog : Program} {w : World} {A : Around} {E : Value → Shared → Prop} {s : Shared}

/-! ### t[a:b], not the whole -/
/-- a slice's bound as a place among n (d where it is left out) -/
def sIx (n d : Nat) : Option Int → Nat
  | none => d
  | some v => if v < 0 then (v + (n : Int)).toNat else min v.toNat n
theorem sIx_nat (n d k : Nat) : sIx n d (some (k : Int)) = min k n := by
  show (if (k : Int) < 0 then ((k : Int) + (n : Int)).toNat else min (k : Int).toNat n) = min k n
  rw [if_neg (by omega), Int.toNat_natCast]
end
end HT

namespace L2
open PySem PySem.Spec PyProof.Rows

/-! ### the parts of a slice -/
abbrev TO := St → Hp → (Option Int → Hp → Prop) → Prop
/-- a slice's part (left out, or an int) -/
def PO (X : Cx) (e : Option Expr) (t : TO) : Prop :=
  ∀ (pins : List (Addr × Obj)) (s : Shared) (σ : St) (H : Hp) (Q : Option Int → Hp → Prop), Inv X pins σ H s → t σ H Q →
    wpAny (model X.prog X.w) X.A (evalPart e X.env) (fun u s' => ∃ o H', Inv X pins σ H' s' ∧ IsPart u o ∧ Q o H') X.xe s
def tPart (t : TE) : TO := fun σ H Q => t σ H fun x H1 => ∃ i, x = .int i ∧ Q (some i) H1

section
variable {X : Cx} {e : Expr} {te : TE} {lo hi : Option Expr} {tl th : TO} {pos p2 : Pos}

theorem po_some (h : PE X e te) : PO X (some e) (tPart te) := by
  intro pins s σ H Q I hw
  rw [evalPart_some]
  refine thn (h pins s σ H _ I hw) fun u s1 ⟨x, H1, I1, r1, q1⟩ => ?_
  obtain ⟨i, rfl, q⟩ := q1
  obtain ⟨t, rfl⟩ := r1
  exact ⟨some i, H1, I1, .int i t, q⟩

/-- what a slice of a value is, by values: the slice object stands at sl -/
def SlR (X : Cx) (r : V → Option Int → Option Int → Hp → VK → Prop) : Prop :=
  ∀ (pins : List (Addr × Obj)) (s : Shared) (σ : St) (H : Hp) (x : V) (v vl vu : Value) (lo hi : Option Int) (sl : Addr) (Q : VK), Inv X pins σ H s → RelV x v → s.heap.IsSliceOf sl vl vu .none → IsPart vl lo → IsPart vu hi → r x lo hi H Q →
    ∃ T id, typeLookup (.type T) "__getitem__" = pure (some (.builtin id)) ∧ s.TypeIs v T ∧ wpAny (model X.prog X.w) X.A (getItem v (.ref sl)) (EP X pins σ Q) X.xe s
def tSl (r : V → Option Int → Option Int → Hp → VK → Prop) (te : TE) (tl th : TO) : TE := fun σ H Q => te σ H fun x H1 => tl σ H1 fun l H2 => th σ H2 fun u H3 => r x l u H3 Q
/-- a[lo:hi], any a -/
theorem pe_slice {r : V → Option Int → Option Int → Hp → VK → Prop} (hr : SlR X r) (he : PE X e te) (hl : PO X lo tl) (hu : PO X hi th) : PE X (.Subscript e (.Slice lo hi none p2) pos) (tSl r te tl th) := by
  intro pins s σ H Q I h
  refine Subscript_ (thn (he pins s σ H _ I h) fun v s1 ⟨x, H1, I1, r1, q1⟩ => ?_)
  refine wpAny_Slice (thn (hl pins s1 σ H1 _ I1 q1) fun vl s2 ⟨l, H2, I2, pl, q2⟩ => thn (hu pins s2 σ H2 _ I2 q2) fun vu s3 ⟨u, H3, I3, pu, q3⟩ => ?_)
  rw [evalPart_none]
  refine wpAny_pure ?_
  have I4 : Inv X pins σ H3 { s3 with heap := s3.heap.push { cls := .type "slice", data := .fields #[vl, vu, .none] } } := I3.kept (t' := s3.toks) fun b ob q => Heap.get?_push_of_some _ q
  obtain ⟨T, id, hT, ht, hg⟩ := hr pins { s3 with heap := s3.heap.push { cls := .type "slice", data := .fields #[vl, vu, .none] } } σ H3 x v vl vu l u s3.heap.objs.size Q I4 r1 (Heap.IsSliceOf.new ..) pl pu q3
  show wpAny (model X.prog X.w) X.A (subscriptTail e (.Slice lo hi none p2) v (.ref s3.heap.objs.size)) (EP X pins σ Q) X.xe { s3 with heap := s3.heap.push { cls := .type "slice", data := .fields #[vl, vu, .none] } }
  exact tail_any (ops := [.ref s3.heap.objs.size, v]) ht hT hg (by with_unfolding_all rfl)

/-- the items of xs[lo:hi] -/
def cutV (xs : List V) (lo hi : Option Int) : List V := (xs.drop (HT.sIx xs.length 0 lo)).take (HT.sIx xs.length xs.length hi - HT.sIx xs.length 0 lo)
theorem cutV_length (xs : List V) (lo hi : Option Int) : (cutV xs lo hi).length ≤ xs.length := by
  unfold cutV
  rw [List.length_take, List.length_drop]
  omega
/-! ### t < u, t + u -/
end
end L2

namespace L2
open PySem PySem.Spec PyProof.Rows

/-! ### places -/
/-- the place that an index of any sign means -/
def ixN (n : Nat) (i : Int) : Option Nat := if 0 ≤ i then (if i < n then some i.toNat else none) else if -(n : Int) ≤ i then some (i + n).toNat else none
def atI {α : Type} (xs : List α) (i : Int) : Option α := (ixN xs.length i).bind fun j => xs[j]?
theorem ixN_seq {n : Nat} {i : Int} {j : Nat} (h : ixN n i = some j) : seqIndex? i n = some j ∧ j < n ∧ -(n : Int) ≤ i ∧ i < n := by
  unfold ixN at h
  by_cases h0 : 0 ≤ i
  · rw [if_pos h0] at h
    by_cases h1 : i < n
    · rw [if_pos h1] at h
      have e : i.toNat = j := Option.some.inj h
      exact ⟨by rw [seqIndex_of h0 h1, e], by omega, by omega, h1⟩
    · rw [if_neg h1] at h; cases h
  · rw [if_neg h0] at h
    by_cases h1 : -(n : Int) ≤ i
    · rw [if_pos h1] at h
      have e : (i + n).toNat = j := Option.some.inj h
      exact ⟨by rw [seqIndex_neg (by omega) h1, e], by omega, h1, by omega⟩
    · rw [if_neg h1] at h; cases h
theorem atI_get {α : Type} {xs : List α} {i : Int} {v : α} (h : atI xs i = some v) : ∃ j, seqIndex? i xs.length = some j ∧ xs[j]? = some v ∧ j < xs.length ∧ -(xs.length : Int) ≤ i ∧ i < xs.length := by
  unfold atI at h
  cases e : ixN xs.length i with
  | none => rw [e] at h; cases h
  | some j =>
    rw [e] at h
    obtain ⟨h1, h2, h3, h4⟩ := ixN_seq e
    exact ⟨j, h1, h, h2, h3, h4⟩
theorem atI_nat {α : Type} {xs : List α} {j : Nat} {v : α} (h : xs[j]? = some v) : atI xs (j : Int) = some v := by
  have hj : j < xs.length := (List.getElem?_eq_some_iff.mp h).1
  have e : ixN xs.length (j : Int) = some j := by
    unfold ixN
    rw [if_pos (by omega), if_pos (by omega)]; simp
  unfold atI; rw [e]; exact h
theorem atI_last {α : Type} (xs : List α) (v : α) : atI (xs ++ [v]) (-1) = some v := by
  have hl : (xs ++ [v]).length = xs.length + 1 := by simp
  have e : ixN (xs ++ [v]).length (-1) = some xs.length := by
    unfold ixN
    rw [hl, if_neg (by decide), if_pos (by omega)]
    congr 1
    omega
  unfold atI
  rw [e]
  show (xs ++ [v])[xs.length]? = some v
  simp

/-! ### what may be subscripted -/
/-- what stands as an index of a plain subscript -/
def PlainIx (b : Expr) : Prop := ∀ o i, subscripted b false o i = operate [o, i] (getItem o i)
/-- a subscript by values -/
def IxR (X : Cx) (r : R2) : Prop :=
  ∀ (value slice : Expr) (pins : List (Addr × Obj)) (s : Shared) (σ : St) (H : Hp) (x y : V) (v u : Value) (Q : VK), Inv X pins σ H s → RelV x v → RelV y u → r x y H Q →
    subscripted slice false v u = operate [v, u] (getItem v u) → wpAny (model X.prog X.w) X.A (subscriptTail value slice v u) (EP X pins σ Q) X.xe s
/-- a call of a builtin's method by values: the receiver, the arguments -/
def MtR (X : Cx) (id : String) (r : V → List V → Hp → VK → Prop) : Prop :=
  ∀ (pins : List (Addr × Obj)) (s : Shared) (σ : St) (H : Hp) (x : V) (xs : List V) (v : Value) (us : List Value) (Q : VK), Inv X pins σ H s → RelV x v → Vals xs us → r x xs H Q →
    wpAny (model X.prog X.w) X.A (call (.builtin id) (v :: us)) (EP X pins σ Q) X.xe s
section
variable {X : Cx} {a b : Expr} {ta tb : TE} {pos : Pos}
/-- a[b] -/
theorem pe_ix {r : R2} (hr : IxR X r) (ha : PE X a ta) (hb : PE X b tb) (hs : PlainIx b) : PE X (.Subscript a b pos) (tOp r ta tb) := by
  intro pins s σ H Q I h
  exact Subscript_ (binT ha hb I h fun v u s2 x y H2 I2 rx ry q => hr a b pins s2 σ H2 x y v u Q I2 rx ry q (hs _ _))

def rIxL (K : PySem.W.Frag) : R2 := fun x y H Q => ∃ p xs i v, x = .ref p ∧ y = .int i ∧ SqL K H p xs ∧ atI xs i = some v ∧ Q v H
def rIxT (K : PySem.W.Frag) : R2 := fun x y H Q => ∃ p xs i v, x = .ref p ∧ y = .int i ∧ SqT K H p xs ∧ atI xs i = some v ∧ Q v H
theorem ix_list : IxR X (rIxL X.K) := by
  intro value slice pins s σ H x y v u Q I rx ry h hs
  obtain ⟨p, xs, i, z, rfl, rfl, hq, he, q⟩ := h
  cases rx
  obtain ⟨t, rfl⟩ := ry
  obtain ⟨its, r, pl, hz⟩ := I.list hq
  obtain ⟨j, h1, h2, h3, h4, h5⟩ := atI_get he
  obtain ⟨w, ew, rw'⟩ := r.get h2
  have hl := r.length
  have hn := line63
  have fin : EP X pins σ Q w s := ⟨z, H, I, rw', q⟩
  by_cases h0 : 0 ≤ i
  · have hj : i.toNat = j := by
      rw [seqIndex_of h0 h5] at h1
      exact Option.some.inj h1
    exact item_listR pl.isList h0 (by omega) (by rw [hj]; simpa using ew) fin hs
  · have hj : (i + (its.toArray.size : Int)).toNat = j := by
      rw [seqIndex_neg (by omega) h4] at h1
      rw [List.size_toArray, ← hl]
      exact Option.some.inj h1
    exact subscriptTail_builtinR (x := w) pl.isList.typeIs slot_list_getitem.lookup
      (wpAny_getItem_list_neg (Q := fun r s' => r = w ∧ EP X pins σ Q r s') pl.isList (by omega) (by rw [List.size_toArray] <;> omega) (by omega) (by rw [hj]; simpa using ew) ⟨rfl, fin⟩) hs
theorem ix_tup : IxR X (rIxT X.K) := by
  intro value slice pins s σ H x y v u Q I rx ry h hs
  obtain ⟨p, xs, i, z, rfl, rfl, hq, he, q⟩ := h
  cases rx
  obtain ⟨t, rfl⟩ := ry
  obtain ⟨its, r, pl, hz⟩ := I.tuple hq
  obtain ⟨j, h1, h2, h3, h4, h5⟩ := atI_get he
  obtain ⟨w, ew, rw'⟩ := r.get h2
  have hl := r.length
  have hn := line63
  have fin : EP X pins σ Q w s := ⟨z, H, I, rw', q⟩
  exact subscriptTail_builtinR (x := w) pl.typeIs slot_tuple_getitem.lookup
    (getItem_tuple (j := j) (Q := fun r s' => r = w ∧ EP X pins σ Q r s') pl (by omega) (by omega) (by rw [List.size_toArray, ← hl]; exact h1) (by simpa using ew) ⟨rfl, fin⟩) hs
/-! ### xs[i] = v, any sign -/
/-- the list's object behind a store -/
theorem mapSeq_set (its : List Value) (n j : Nat) (u : Value) : Obj.mapSeq (·.setIfInBounds j u) { cls := .type "list", data := .seq its.toArray n } = { cls := .type "list", data := .seq (its.set j u).toArray n } := by
  simp [Obj.mapSeq]
theorem Inv.lst {pins : List (Addr × Obj)} {σ : St} {H : Hp} {s : Shared} {p : Addr} {xs : List V} (I : Inv X pins σ H s) (h : H p = some (.lst xs)) :
    ∃ (its : List Value) (n : Nat), Vals xs its ∧ s.heap.get? p = some { cls := .type "list", data := .seq its.toArray n } ∧ xs.length ≤ sizeLine := by
  obtain ⟨z, its, n, r, e⟩ := I.hok p _ h
  exact ⟨its, n, r, e, z⟩
/-- the list at p is written by an update of its object -/
theorem Inv.lstUpd {pins : List (Addr × Obj)} {σ : St} {H : Hp} {s : Shared} {p : Addr} {xs ys : List V} {its its' : List Value} {n n' : Nat} {f : Obj → Obj} (I : Inv X pins σ H s) (h : H p = some (.lst xs))
    (ho : s.heap.get? p = some { cls := .type "list", data := .seq its.toArray n }) (hf : f { cls := .type "list", data := .seq its.toArray n } = { cls := .type "list", data := .seq its'.toArray n' }) (r : Vals ys its') (hz : ys.length ≤ sizeLine) (t : Nat) :
    Inv X pins σ (upd H p (.lst ys)) { s with heap := s.heap.update p f, toks := t } := by
  have e : (s.heap.update p f).get? p = some { cls := .type "list", data := .seq its'.toArray n' } := by
    rw [Heap.get?_update_self f ho (by rw [hf] <;> rfl), hf]
  refine I.write (x := p) (e := p) (by rw [h]; trivial) (.inl rfl) (fun b u hb q => (Heap.get?_update_other _ _ (Ne.symm hb)).trans q) ⟨_, e⟩ ?_
  exact ⟨hz, its', n', r, e⟩
def rSetL : V → V → V → Hp → (Hp → Prop) → Prop := fun o i v H Q => ∃ p xs k j, o = .ref p ∧ i = .int k ∧ H p = some (.lst xs) ∧ ixN xs.length k = some j ∧ Q (upd H p (.lst (xs.set j v)))
theorem set_list : PSet X rSetL := by
  intro pins s σ H o i v ov iv u Q I ro ri rv h
  obtain ⟨p, xs, k, j, rfl, rfl, hp, hj, q⟩ := h
  cases ro
  obtain ⟨t, rfl⟩ := ri
  obtain ⟨its, n, r, ho, hz⟩ := I.lst hp
  obtain ⟨h1, h2, h3, h4⟩ := ixN_seq hj
  have hl := r.length
  have hn := line63
  have I' : Inv X pins σ (upd H p (.lst (xs.set j v))) { s with heap := s.heap.update p (Obj.mapSeq (·.setIfInBounds j u)) } :=
    I.lstUpd hp ho (mapSeq_set its n j u) (r.set rv j) (by rw [List.length_set]; exact hz) s.toks
  by_cases h0 : 0 ≤ k
  · have hk : k.toNat = j := by
      rw [seqIndex_of h0 h4] at h1
      exact Option.some.inj h1
    exact PySem.W.ki_setAt ho h0 (by omega) (by rw [List.size_toArray, ← hl]; exact h4) (by rw [hk]; exact ⟨_, I', q⟩)
  · have hk : (k + (its.toArray.size : Int)).toNat = j := by
      rw [seqIndex_neg (by omega) h3] at h1
      rw [List.size_toArray, ← hl]
      exact Option.some.inj h1
    exact PySem.W.ki_setBack ho (by omega) (by rw [List.size_toArray, ← hl]; exact h3) (by omega) (by rw [hk]; exact ⟨_, I', q⟩)

/-! ### slices -/
theorem slice_bounds (lo hi : Option Int) (n : Nat) : (sliceBounds lo hi none n).1 = ((HT.sIx n 0 lo : Nat) : Int) ∧ (sliceBounds lo hi none n).2.1 = ((HT.sIx n n hi : Nat) : Int) ∧ (sliceBounds lo hi none n).2.2 = 1 := by
  refine ⟨?_, ?_, rfl⟩
  · cases lo with
    | none => simp [sliceBounds, HT.sIx]
    | some i =>
      simp only [sliceBounds, HT.sIx, Option.getD_none, show (1 : Int) > 0 by decide, if_true]
      by_cases h : i < 0
      · simp only [h, if_true] <;> omega
      · simp only [h, if_false] <;> omega
  · cases hi with
    | none => simp [sliceBounds, HT.sIx]
    | some i =>
      simp only [sliceBounds, HT.sIx, Option.getD_none, show (1 : Int) > 0 by decide, if_true]
      by_cases h : i < 0
      · simp only [h, if_true] <;> omega
      · simp only [h, if_false] <;> omega
theorem slicePick_cut (its : List Value) (lo hi : Option Int) : slicePick its.toArray lo hi none = ((its.drop (HT.sIx its.length 0 lo)).take (HT.sIx its.length its.length hi - HT.sIx its.length 0 lo)).toArray := by
  obtain ⟨h1, h2, h3⟩ := slice_bounds lo hi its.toArray.size
  unfold slicePick
  rw [h1, h2, h3]
  simp only [sliceRange_one, pick_run, List.size_toArray] <;> rfl
/-- xs[lo:hi] of a list: a new list -/
def rSlL (K : PySem.W.Frag) : V → Option Int → Option Int → Hp → VK → Prop := fun x lo hi H Q => ∃ a xs, x = .ref a ∧ SqL K H a xs ∧ ∀ p, H p = none → Q (.ref p) (upd H p (.lst (cutV xs lo hi)))
theorem sl_list : SlR X (rSlL X.K) := by
  intro pins s σ H x v vl vu lo hi sl Q I rx hs pl pu h
  obtain ⟨a, xs, rfl, hx, q⟩ := h
  cases rx
  obtain ⟨its, r, ht, hz⟩ := I.list hx
  have hlen := r.length
  refine ⟨"list", _, slot_list_getitem.lookup, ht.isList.typeIs, ?_⟩
  refine wpAny_getItem_list_slice ht.isList hs pl pu .none (by simp) ?_ (by rw [List.size_toArray] <;> omega)
  rw [slicePick_cut, ← hlen]
  refine ⟨.ref s.heap.objs.size, _, I.laid (t' := s.toks) (o := .lst (cutV xs lo hi)) (fun b ob q => Heap.get?_push_of_some _ q) (Nat.le_refl _) ?_, rfl, q _ (I.hok.fresh (Nat.le_refl _))⟩
  exact ⟨Nat.le_trans (cutV_length xs lo hi) hz, _, 0, (r.drop (HT.sIx xs.length 0 lo)).take (HT.sIx xs.length xs.length hi - HT.sIx xs.length 0 lo), Heap.get?_push_size _ rfl⟩

/-! ### in, not in: flat items -/
def flatV : V → Bool
  | .non => true
  | .bl _ => true
  | .int _ => true
  | .str _ => true
  | _ => false
/-- == of flat values -/
def eqV : V → V → Bool
  | .non, .non => true
  | .bl a, .bl b => a == b
  | .bl a, .int b => (if a then 1 else 0) == b
  | .int a, .bl b => a == (if b then 1 else 0)
  | .int a, .int b => a == b
  | .str a, .str b => a == b
  | _, _ => false
theorem eqAt_V {A : Around} {s : Shared} {y x : V} {u v : Value} (ry : RelV y u) (rx : RelV x v) (fy : flatV y = true) (fx : flatV x = true) : SeqAt.EqAt A s u v (eqV y x) := by
  cases y with
  | non =>
    cases ry
    cases x with
    | non => cases rx; exact SeqAt.EqAt.same _
    | bl b => cases rx; exact SeqAt.EqAt.none_bool b
    | int b => obtain ⟨t, rfl⟩ := rx; exact SeqAt.EqAt.none_int b t
    | str b => obtain ⟨t, rfl⟩ := rx; exact SeqAt.EqAt.none_str b t
    | _ => exact absurd (show false = true from fx) Bool.false_ne_true
  | bl a =>
    cases ry
    cases x with
    | non => cases rx; exact SeqAt.EqAt.bool_none a
    | bl b => cases rx; exact SeqAt.EqAt.bool_bool a b
    | int b => obtain ⟨t, rfl⟩ := rx; exact SeqAt.EqAt.bool_int a b t
    | str b => obtain ⟨t, rfl⟩ := rx; exact SeqAt.EqAt.bool_str a b t
    | _ => exact absurd (show false = true from fx) Bool.false_ne_true
  | int a =>
    obtain ⟨t', rfl⟩ := ry
    cases x with
    | non => cases rx; exact SeqAt.EqAt.int_none a t'
    | bl b => cases rx; exact SeqAt.EqAt.int_bool a t' b
    | int b => obtain ⟨t, rfl⟩ := rx; exact SeqAt.EqAt.int_int a t' b t
    | str b => obtain ⟨t, rfl⟩ := rx; exact SeqAt.EqAt.int_str a t' b t
    | _ => exact absurd (show false = true from fx) Bool.false_ne_true
  | str a =>
    obtain ⟨t', rfl⟩ := ry
    cases x with
    | non => cases rx; exact SeqAt.EqAt.str_none a t'
    | bl b => cases rx; exact SeqAt.EqAt.str_bool a t' b
    | int b => obtain ⟨t, rfl⟩ := rx; exact SeqAt.EqAt.str_int a t' b t
    | str b => obtain ⟨t, rfl⟩ := rx; exact SeqAt.EqAt.str_str a t' b t
    | _ => exact absurd (show false = true from fx) Bool.false_ne_true
  | _ => exact absurd (show false = true from fy) Bool.false_ne_true
/-- the items' answers, read off the values (a value's own answer does not lean on its token) -/
def eqU (x : V) (u : Value) : Bool := match u with
  | .none => eqV .non x
  | .bool b => eqV (.bl b) x
  | .int i _ => eqV (.int i) x
  | .str z _ => eqV (.str z) x
  | _ => false
theorem eqU_of {x y : V} {u : Value} (r : RelV y u) (f : flatV y = true) : eqU x u = eqV y x := by
  cases y with
  | non => cases r; rfl
  | bl b => cases r; rfl
  | int i => obtain ⟨t, rfl⟩ := r; rfl
  | str z => obtain ⟨t, rfl⟩ := r; rfl
  | _ => exact absurd (show false = true from f) Bool.false_ne_true
theorem any_eqU {x : V} : ∀ {xs : List V} {us : List Value}, Vals xs us → xs.all flatV = true → us.any (eqU x) = xs.any fun y => eqV y x
  | _, _, .nil, _ => rfl
  | y :: xs, u :: us, .cons r t, f => by
    rw [List.all_cons, Bool.and_eq_true] at f
    rw [List.any_cons, List.any_cons, eqU_of r f.1, any_eqU t f.2]
theorem mem_eqAt {A : Around} {s : Shared} {x : V} {v : Value} (rx : RelV x v) (fx : flatV x = true) : ∀ {xs : List V} {us : List Value}, Vals xs us → xs.all flatV = true → ∀ u ∈ us, SeqAt.EqAt A s u v (eqU x u)
  | _, _, .nil, _ => fun u hu => by cases hu
  | y :: xs, u :: us, .cons r t, f => fun u' hu => by
    rw [List.all_cons, Bool.and_eq_true] at f
    rcases List.mem_cons.mp hu with rfl | hu
    · rw [eqU_of r f.1]; exact eqAt_V r rx f.1 fx
    · exact mem_eqAt rx fx t f.2 u' hu
def inV (x : V) (xs : List V) : Bool := xs.any fun y => eqV y x
/-- x in a list or tuple of flat items -/
def rIn (K : PySem.W.Frag) (neg : Bool) : R2 := fun x y H Q => ∃ p xs, y = .ref p ∧ (SqL K H p xs ∨ SqT K H p xs) ∧ flatV x = true ∧ xs.all flatV = true ∧ Q (.bl (if neg then !inV x xs else inV x xs)) H
theorem op_notIn_seq : OpR X (compareOp .NotIn) (rIn X.K true) := by
  intro pins s σ H x y v u Q I rx ry h
  obtain ⟨p, xs, rfl, hq, fx, fs, q⟩ := h
  cases ry
  rcases hq with hq | hq
  · obtain ⟨its, r, pl, hz⟩ := I.list hq
    refine SeqAt.notIn_listAt (eqU x) pl.isList (fun w hw => mem_eqAt rx fx r fs w (by simpa using hw)) ⟨.bl _, H, I, rfl, ?_⟩
    rw [show its.toArray.any (eqU x) = its.any (eqU x) by simp, any_eqU r fs]
    exact q
  · obtain ⟨its, r, pl, hz⟩ := I.tuple hq
    refine SeqAt.notIn_tupleAt (eqU x) pl (fun w hw => mem_eqAt rx fx r fs w (by simpa using hw)) ⟨.bl _, H, I, rfl, ?_⟩
    rw [show its.toArray.any (eqU x) = its.any (eqU x) by simp, any_eqU r fs]
    exact q
/-! ### len, list(x), tuple(x) of any list or tuple that is read -/
theorem call_len_seq : CallR X (.builtin "len") (fun xs H Q => ∃ p ys, xs = [.ref p] ∧ (SqL X.K H p ys ∨ SqT X.K H p ys) ∧ Q (.int ys.length) H) := by
  intro pins s σ H xs us Q I r h
  obtain ⟨p, ys, rfl, hq, q⟩ := h
  obtain ⟨u, rfl, rx⟩ := vals1 r
  cases rx
  have hn := line63
  rcases hq with hq | hq
  · obtain ⟨its, r', pl, hz⟩ := I.list hq
    have hlen := r'.length
    exact Calls.call_len_list pl.isList (by simp only [List.size_toArray] <;> omega) ⟨.int ys.length, H, I.tok _, ⟨s.toks + 1, by rw [List.size_toArray, hlen]⟩, q⟩
  · obtain ⟨its, r', pl, hz⟩ := I.tuple hq
    have hlen := r'.length
    exact len_tuple pl (by simp only [List.size_toArray] <;> omega) ⟨.int ys.length, H, I.tok _, ⟨s.toks + 1, by rw [List.size_toArray, hlen]⟩, q⟩
theorem call_list_of : CallR X (.type "list") (fun xs H Q => ∃ p ys, xs = [.ref p] ∧ (SqL X.K H p ys ∨ SqT X.K H p ys) ∧ ∀ l, H l = none → Q (.ref l) (upd H l (.lst ys))) := by
  intro pins s σ H xs us Q I r h
  obtain ⟨p, ys, rfl, hq, q⟩ := h
  obtain ⟨u, rfl, rx⟩ := vals1 r
  cases rx
  have fin : ∀ (its : List Value), Vals ys its → ys.length ≤ sizeLine → ∀ (h' : Heap) (c' : Nat), (∀ b o', s.heap.get? b = some o' → h'.get? b = some o') →
      h'.get? s.heap.objs.size = some { cls := .type "list", dict := none, data := .seq its.toArray c', slots := #[] } → EP X pins σ Q (.ref s.heap.objs.size) { s with heap := h' } := fun its r' hz h' c' kp e =>
    ⟨.ref s.heap.objs.size, _, I.laid (t' := s.toks) kp (Nat.le_refl _) (show ObjOk X.prog X.w _ h' _ (.lst ys) from ⟨hz, its, c', r', e⟩), rfl, q _ (I.hok.fresh (Nat.le_refl _))⟩
  rcases hq with hq | hq
  · obtain ⟨its, r', pl, hz⟩ := I.list hq
    have hlen := r'.length
    obtain ⟨o, ho, hc, n, hd⟩ := pl.isList
    exact call_list_seq p (.inl rfl) ho hc hd (fun h' c' kp e => fin its r' hz h' c' kp e) (by simp only [List.size_toArray] <;> omega)
  · obtain ⟨its, r', pl, hz⟩ := I.tuple hq
    have hlen := r'.length
    obtain ⟨o, ho, hc, n, hd⟩ := pl
    exact call_list_seq p (.inr rfl) ho hc hd (fun h' c' kp e => fin its r' hz h' c' kp e) (by simp only [List.size_toArray] <;> omega)
theorem call_tuple_of : CallR X (.type "tuple") (fun xs H Q => ∃ p ys, xs = [.ref p] ∧ ((SqL X.K H p ys ∧ ∀ l, H l = none → Q (.ref l) (upd H l (.tup ys))) ∨ (SqT X.K H p ys ∧ Q (.ref p) H))) := by
  intro pins s σ H xs us Q I r h
  obtain ⟨p, ys, rfl, h⟩ := h
  obtain ⟨u, rfl, rx⟩ := vals1 r
  cases rx
  rcases h with ⟨hq, q⟩ | ⟨hq, q⟩
  · obtain ⟨its, r', pl, hz⟩ := I.list hq
    have hlen := r'.length
    refine call_tuple_list pl.isList (fun h' kp => ?_) (by simp only [List.size_toArray] <;> omega)
    have I1 : Inv X pins σ H { s with heap := h' } := I.kept (t' := s.toks) kp
    have I2 : Inv X pins σ (upd H h'.objs.size (.tup ys)) { s with heap := h'.push { cls := .type "tuple", data := .seq its.toArray } } :=
      I1.laid (t' := s.toks) (fun b o e => Heap.get?_push_of_some _ e) (Nat.le_refl _) (show ObjOk X.prog X.w _ _ _ (.tup ys) from ⟨hz, its, r', IsTup.new _ _⟩)
    exact ⟨.ref h'.objs.size, _, I2, rfl, q _ (I1.hok.fresh (Nat.le_refl _))⟩
  · obtain ⟨its, r', pl, hz⟩ := I.tuple hq
    exact call_tuple_same pl ⟨.ref p, H, I, rfl, q⟩

/-! ### the call of a builtin's method: o.m(..) -/
/-- the value is of that builtin type -/
def tyV (K : PySem.W.Frag) (T : String) (x : V) (H : Hp) : Prop := match x with
  | .str _ => T = "str"
  | .int _ => T = "int"
  | .ref p => (T = "list" ∧ ∃ xs, SqL K H p xs) ∨ (T = "tuple" ∧ ∃ o, K.lookup p = some o ∧ o.cls = .type "tuple" ∧ o.dict = none) ∨
      (T = "dict" ∧ ((∃ kvs, H p = some (.dK kvs)) ∨ ∃ kvs, H p = some (.dT kvs))) ∨ (T = "set" ∧ ∃ S n, H p = some (.set S n))
  | _ => False
theorem tyV_is {pins : List (Addr × Obj)} {σ : St} {H : Hp} {s : Shared} {T : String} {x : V} {v : Value} (I : Inv X pins σ H s) (r : RelV x v) (ty : tyV X.K T x H) :
    s.TypeIs v T ∧ ∀ a, v = .ref a → ∃ ob, s.heap.get? a = some ob ∧ ob.dict = none := by
  cases x with
  | str z =>
    obtain ⟨t, rfl⟩ := r
    cases (show T = "str" from ty)
    exact ⟨typeIs_str s z t, fun _ e => nomatch e⟩
  | int i =>
    obtain ⟨t, rfl⟩ := r
    cases (show T = "int" from ty)
    exact ⟨typeIs_int s i t, fun _ e => nomatch e⟩
  | ref p =>
    cases r
    rcases ty with ⟨rfl, xs, hq⟩ | ⟨rfl, o, hk, hc, hd⟩ | ⟨rfl, hk⟩ | ⟨rfl, S, n, hk⟩
    · obtain ⟨its, _, pl, _⟩ := I.list hq
      refine ⟨pl.isList.typeIs, fun a e => ?_⟩
      cases e
      obtain ⟨o, n, e, c, hd, _⟩ := pl
      exact ⟨o, e, hd⟩
    · refine ⟨⟨o, I.kIn p o hk, hc⟩, fun a e => ?_⟩
      cases e
      exact ⟨o, I.kIn _ o hk, hd⟩
    · have z : ∃ o, s.heap.get? p = some o ∧ o.ExactDict := by
        rcases hk with ⟨kvs, hk⟩ | ⟨kvs, hk⟩
        · obtain ⟨_, _, _, _, o, _, _, e, ex, _⟩ := I.hok p _ hk
          exact ⟨o, e, ex⟩
        · obtain ⟨_, _, _, _, o, _, _, e, ex, _⟩ := I.hok p _ hk
          exact ⟨o, e, ex⟩
      obtain ⟨o, e, ex⟩ := z
      refine ⟨⟨o, e, ex.1⟩, fun a e2 => ?_⟩
      cases e2
      exact ⟨o, e, ex.2.1⟩
    · obtain ⟨o, _, _, _, e, ex, _⟩ := I.hok p _ hk
      refine ⟨⟨o, e, ex.1⟩, fun a e2 => ?_⟩
      cases e2
      exact ⟨o, e, ex.2.1⟩
  | _ => exact False.elim ty
def tBM (K : PySem.W.Frag) (T : String) (r : V → List V → Hp → VK → Prop) (to : TE) (t : TA) : TE := fun σ H Q => to σ H fun x H1 => tyV K T x H1 ∧ t σ H1 fun xs H2 => r x xs H2 Q
variable {o e : Expr} {es : List Expr} {to : TE} {t : TA} {name : Str} {apos cpos : Pos} {T id : String} {r : V → List V → Hp → VK → Prop}
theorem pe_bm (pa : PlainAttrs T) (slot : Slot T name id) (hty : typeOf (.builtin id) = pure (.type "method_descriptor")) (hm : MtR X id r) (ho : PE X o to) (ha : PA X (e :: es) t)
    (hbase : attributeBase o name X.env (eval o X.env) = eval o X.env := by rfl)
    (hfew : ((backTo cpos (starEach (e :: es) X.env)).all (fun x => !x.1) && (backToKw cpos (keywordEach [] X.env)).all (fun x => x.1.isSome)
      && decide ((e :: es).length + ([] : List Keyword).length + (if ([] : List Keyword).isEmpty then 0 else 1) < 30)) = true := by rfl)
    (hline : (apos.endLine == cpos.line) = true := by rfl) (hs : starEach (e :: es) X.env = (false, eval e X.env) :: starEach es X.env := by rfl) (hplain : (backTo cpos (starEach es X.env)).any (·.1) = false := by rfl) :
    PE X (.Call (.Attribute o name apos) (e :: es) [] cpos) (tBM X.K T r to t) := by
  intro pins s σ H Q I h
  refine wpAny_Call_method_late hbase hfew hline rfl (thn (ho pins s σ H _ I h) fun v s1 ⟨x, H1, I1, r1, ty, q1⟩ => ?_)
  obtain ⟨h1, h2⟩ := tyV_is I1 r1 ty
  refine ⟨T, id, pa, slot, hty, h1, h2, ?_⟩
  have hA := ha cpos pins s1 σ H1 _ I1 q1
  rw [hs] at hA ⊢
  refine Calls.callWith_builtin (by show (false || (backTo cpos (starEach es X.env)).any (·.1)) = false; rw [hplain] <;> rfl) (Calls.evalArgs_plain ?_)
  exact thn hA fun us s2 ⟨vs, H2, I2, r2, q2⟩ => hm pins s2 σ H2 x vs v us Q I2 r1 r2 q2
/- xs.append(e), list.index on a module's tuple .. are MtR facts of 06m -/
end
end L2

namespace L2
open PySem PySem.Spec PyProof.Rows

def MtM (X : Cx) (id : String) (r : V → List V → Hp → VK → Prop) : Prop :=
  ∀ (pins : List (Addr × Obj)) (s : Shared) (σ : St) (H : Hp) (x : V) (xs : List V) (v : Value) (us : List Value) (Q : VK), Inv X pins σ H s → RelV x v → Vals xs us → r x xs H Q →
    wpAny (model X.prog X.w) X.A (call (.builtin id) (v :: us)) (EP X pins σ Q) X.xe s

/-! ### lists of values -/
theorem Vals.one : ∀ {x : V} {us : List Value}, Vals [x] us → ∃ u, us = [u] ∧ RelV x u
  | _, _, .cons r .nil => ⟨_, rfl, r⟩
theorem Vals.rep {xs : List V} {us : List Value} (h : Vals xs us) : ∀ k : Nat, Vals (List.replicate k xs).flatten (List.replicate k us).flatten
  | 0 => .nil
  | k + 1 => by
    rw [List.replicate_succ, List.replicate_succ, List.flatten_cons, List.flatten_cons]
    exact Vals.append h (Vals.rep h k)
theorem foldl_rep (its : List Value) : ∀ (k : Nat) (acc : List Value),
    List.foldl (fun x1 x2 => x1 ++ x2) acc.toArray (List.replicate k its.toArray) = (acc ++ (List.replicate k its).flatten).toArray
  | 0, acc => by simp
  | k + 1, acc => by
    have e : acc.toArray ++ its.toArray = (acc ++ its).toArray := by simp
    have e2 : (acc ++ its) ++ (List.replicate k its).flatten = acc ++ (List.replicate (k + 1) its).flatten := by
      rw [List.replicate_succ, List.flatten_cons, List.append_assoc]
    rw [← e2, ← foldl_rep its k (acc ++ its), ← e, List.replicate_succ, List.foldl_cons]

section
variable {X : Cx} {pins : List (Addr × Obj)} {σ : St} {H : Hp} {s : Shared} {l b : Addr} {xs ys zs : List V}

/-! ### the two steps: a tracked list is rewritten, a new list is laid -/
theorem Inv.lset {its its' : List Value} {n : Nat} {f : Array Value → Array Value} {t' : Nat} (I : Inv X pins σ H s) (hH : H l = some (.lst xs))
    (e : s.heap.get? l = some { cls := .type "list", data := .seq its.toArray n }) (hf : f its.toArray = its'.toArray) (hv : Vals ys its') (hz : ys.length ≤ sizeLine) :
    Inv X pins σ (upd H l (.lst ys)) { s with heap := s.heap.update l (Obj.mapSeq f), toks := t' } := by
  have q := PySem.IsL.update e f
  rw [hf] at q
  refine I.write (x := l) (e := l) (by rw [hH]; exact trivial) (.inl rfl) (fun b' u hb hu => (Heap.get?_update_other s.heap (Obj.mapSeq f) (Ne.symm hb)).trans hu) ⟨_, q⟩ ?_
  exact ⟨hz, its', _, hv, q⟩
theorem Inv.lnew {its : List Value} {t' : Nat} (I : Inv X pins σ H s) (hv : Vals ys its) (hz : ys.length ≤ sizeLine) :
    Inv X pins σ (upd H s.heap.objs.size (.lst ys)) { s with heap := s.heap.push { cls := .type "list", data := .seq its.toArray }, toks := t' } :=
  I.laid (fun _ _ q => Heap.get?_push_of_some _ q) (Nat.le_refl _) ⟨hz, its, 0, hv, Heap.get?_push_size _ rfl⟩
theorem Inv.fresh (I : Inv X pins σ H s) : H s.heap.objs.size = none := I.hok.fresh (Nat.le_refl _)
theorem Inv.lstM (I : Inv X pins σ H s) (hH : H l = some (.lst xs)) : xs.length ≤ sizeLine ∧ ∃ (its : List Value) (n : Nat), Vals xs its ∧ xs.length = its.length ∧ s.heap.get? l = some { cls := .type "list", data := .seq its.toArray n } := by
  obtain ⟨z, its, n, r, e⟩ := I.hok l _ hH
  exact ⟨z, its, n, r, r.length, e⟩

theorem notLongL {n : Nat} (h : n ≤ sizeLine) : Builtin.List.listTooLong n = false := by
  unfold Builtin.List.listTooLong
  exact decide_eq_false (by omega)
end

section
variable {X : Cx}

/-! ### methods -/
def rAppend : V → List V → Hp → VK → Prop := fun x vs H Q => ∃ l xs y, x = .ref l ∧ vs = [y] ∧ H l = some (.lst xs) ∧ xs.length < sizeLine ∧ Q .non (upd H l (.lst (xs ++ [y])))
theorem mt_append : MtM X "list.append" rAppend := by
  intro pins s σ H x vs v us Q I rx rv h
  obtain ⟨l, xs, y, rfl, rfl, hH, hz, q⟩ := h
  cases rx
  obtain ⟨u, rfl, ru⟩ := rv.one
  obtain ⟨z, its, n, r, hl, e⟩ := I.lstM hH
  refine call_meets F.slot_list_append ⟨_, e, rfl⟩ F.entry_list_append (F.args_list_append_2 _ _) (PySem.list_append l its.toArray n u (by rw [List.size_toArray]; omega)) ⟨e, ?_⟩
  refine ⟨.non, _, I.lset (its' := its ++ [u]) hH e (by simp) (r.append (.cons ru .nil)) ?_, rfl, q⟩
  rw [List.length_append, List.length_singleton]
  omega

def rExtend : V → List V → Hp → VK → Prop := fun x vs H Q => ∃ l b xs zs, x = .ref l ∧ vs = [.ref b] ∧ H l = some (.lst xs) ∧ H b = some (.lst zs) ∧ xs.length + zs.length ≤ sizeLine ∧ Q .non (upd H l (.lst (xs ++ zs)))
theorem mt_extend : MtM X "list.extend" rExtend := by
  intro pins s σ H x vs v us Q I rx rv h
  obtain ⟨l, b, xs, zs, rfl, rfl, hH, hB, hz, q⟩ := h
  cases rx
  obtain ⟨u, rfl, ru⟩ := rv.one
  cases ru
  obtain ⟨z, its, n, r, hl, e⟩ := I.lstM hH
  obtain ⟨z2, its2, n2, r2, hl2, e2⟩ := I.lstM hB
  have hsz : its.toArray.size + its2.toArray.size ≤ sizeLine := by rw [List.size_toArray, List.size_toArray]; omega
  have hlong : ¬ (!its.toArray.isEmpty && Builtin.List.listTooLong (its.toArray.size + its2.toArray.size)) = true := by
    rw [notLongL hsz, Bool.and_false]
    exact Bool.false_ne_true
  refine call_meets F.slot_list_extend ⟨_, e, rfl⟩ F.entry_list_extend (F.args_list_extend_2 _ _)
    (AutoSeq1.list_extend_list_list_0 l its.toArray n b its2.toArray n2 hlong (by rw [List.size_toArray]; omega) (by omega)) ⟨e, e2, ?_⟩
  refine ⟨.non, _, I.lset (its' := its ++ its2) hH e (by simp) (r.append r2) ?_, rfl, q⟩
  rw [List.length_append]
  omega

/-! ### list + list, list += list, list * int -/
/-- a list times an int (a negative one is nothing) -/
def rRep : R2 := fun x y H Q => ∃ l k xs, x = .ref l ∧ y = .int k ∧ H l = some (.lst xs) ∧ -(2 ^ 63) ≤ k ∧ k < 2 ^ 63 ∧ xs.length * k.toNat ≤ sizeLine ∧
  ∀ p, H p = none → Q (.ref p) (upd H p (.lst (List.replicate k.toNat xs).flatten))
theorem len_rep {α : Type} (xs : List α) (k : Nat) : (List.replicate k xs).flatten.length = k * xs.length := by
  induction k with
  | zero => simp
  | succ k ih => rw [List.replicate_succ, List.flatten_cons, List.length_append, ih, Nat.succ_mul, Nat.add_comm]
theorem op_rep : OpR X (binaryOp .Mult) rRep := by
  intro pins s σ H x y v u Q I rx ry h
  obtain ⟨l, k, xs, rfl, rfl, hH, h1, h2, hz, q⟩ := h
  cases rx
  obtain ⟨t, rfl⟩ := ry
  obtain ⟨z, its, n, r, hl, e⟩ := I.lstM hH
  have hlen : its.toArray.size * k.toNat ≤ sizeLine := by rw [List.size_toArray, ← hl]; exact hz
  have hcap : ¬ its.toArray.size * k.toNat > (2 ^ 63 - 1) / 8 := by
    have : (sizeLine : Nat) ≤ (2 ^ 63 - 1) / 8 := by decide
    omega
  have hfit : ¬ (!Builtin.List.listFitsIndex k) = true := by
    rw [fitsIndex_both h1 h2]
    exact Bool.false_ne_true
  have hlong : ¬ Builtin.List.listTooLong (its.toArray.size * k.toNat) = true := by
    rw [notLongL hlen]
    exact Bool.false_ne_true
  have hnew : List.foldl (fun x1 x2 => x1 ++ x2) #[] (List.replicate (if its.toArray.isEmpty = true then 0 else k.toNat) its.toArray) = (List.replicate k.toNat its).flatten.toArray := by
    have f0 : ∀ m : Nat, List.foldl (fun x1 x2 => x1 ++ x2) #[] (List.replicate m its.toArray) = (List.replicate m its).flatten.toArray := fun m => by
      have := foldl_rep its m []
      rw [List.nil_append] at this
      exact this
    rw [f0]
    cases its with
    | nil => simp
    | cons a r' => rw [if_neg (by simp)]
  refine wpAny_binaryOp_repeat_ref (T := "list") (U := "int") (by decide) ⟨_, e, rfl⟩ (fun s' => typeIs_int s' k t) noFill_list_mul F.fills_int_mul F.slot_int_rmul repeat_list F.slot_int_index.lookup
    (call_meets F.slot_int_rmul (typeIs_int s k t) F.entry_int_rmul (F.args_int_rmul_2 _ _) (int___rmul___int_list k t l its.toArray n)
      ⟨e, rfl, ⟨_, e, rfl⟩, call_meets F.slot_list_mul ⟨_, e, rfl⟩ F.entry_list_mul (F.args_list_mul_2 _ _) (AutoListH.list___mul___list_int_3 l its.toArray n k t hfit hcap hlong) ⟨e, ?_⟩⟩)
  rw [hnew]
  exact ⟨.ref _, _, I.lnew (t' := s.toks) (r.rep k.toNat) (by rw [len_rep, Nat.mul_comm]; exact hz), rfl, q _ I.fresh⟩

/-! ### del xs[i] -/
end

/-! ### xs[a:b] = ys -/
section
variable {prog : Program} {w : World} {A : Around} {E : Value → Shared → Prop} {s : Shared}
set_option maxRecDepth 100000 in
end

section
variable {X : Cx}
end
end L2

namespace L2
open PySem PySem.Spec PyProof.Rows

/-! ### the library's walks over a list of ints, kept objects alone -/
section
variable {prog : Program} {w : World} {A : Around} {E : Value → Shared → Prop} {s : Shared} {l : Addr} {its : List Value} {ns : List Int} {Q : Value → Shared → Prop}
end

/-! ### the calls, by values (CallR of 03t; MtR of 06l) -/
section
variable {X : Cx}
/-! sorted, sort (fewer than 64 items: the library's own bound) -/
end

/-! ### list.index, flat items -/
section
variable {X : Cx}
end

/-! ### type(x) of an own instance; is, is not of a module's class -/
section
variable {X : Cx}
end

/-! ### any(xs), all(xs) of a list of bools -/
section
variable {X : Cx}
end

/-! ### == and != of data at any depth: none, bools, ints, texts, lists, tuples -/
mutual
inductive Dp (K : PySem.W.Frag) (H : Hp) : V → PyData → Prop
  | non : Dp K H .non .none
  | bl (b : Bool) : Dp K H (.bl b) (.bool b)
  | int (i : Int) : Dp K H (.int i) (.int i)
  | str (x : Str) : Dp K H (.str x) (.str x)
  | lst {a : Addr} {xs : List V} {ds : List PyData} : SqL K H a xs → DpAll K H xs ds → Dp K H (.ref a) (.list ds)
  | tup {a : Addr} {xs : List V} {ds : List PyData} : SqT K H a xs → DpAll K H xs ds → Dp K H (.ref a) (.tuple ds)
inductive DpAll (K : PySem.W.Frag) (H : Hp) : List V → List PyData → Prop
  | nil : DpAll K H [] []
  | cons {v : V} {vs : List V} {d : PyData} {ds : List PyData} : Dp K H v d → DpAll K H vs ds → DpAll K H (v :: vs) (d :: ds)
end
section
variable {X : Cx} {pins : List (Addr × Obj)} {σ : St} {H : Hp} {s : Shared}
mutual
theorem Dp.reads (I : Inv X pins σ H s) : ∀ (d : PyData) (v : V) (u : Value), Dp X.K H v d → RelV v u → ∃ as, Reads s.heap u d as
  | .none, _, _, h, r => by
    cases h
    cases r
    exact ⟨_, Reads.none⟩
  | .bool b, _, _, h, r => by
    cases h
    cases r
    exact ⟨_, Reads.bool b⟩
  | .int i, _, _, h, r => by
    cases h
    obtain ⟨t, rfl⟩ := r
    exact ⟨_, Reads.int i t⟩
  | .str x, _, _, h, r => by
    cases h
    obtain ⟨t, rfl⟩ := r
    exact ⟨_, Reads.str x t⟩
  | .list ds, _, _, h, r => by
    cases h with
    | lst hs ha =>
      cases r
      obtain ⟨its, rv, ⟨o, n, ho, hc, _, hd⟩, _⟩ := I.list hs
      obtain ⟨as, hr⟩ := Dp.readsAll I ds _ its ha rv
      exact ⟨_, Reads.list ho hc hd hr⟩
  | .tuple ds, _, _, h, r => by
    cases h with
    | tup hs ha =>
      cases r
      obtain ⟨its, rv, ⟨o, ho, hc, n, hd⟩, _⟩ := I.tuple hs
      obtain ⟨as, hr⟩ := Dp.readsAll I ds _ its ha rv
      exact ⟨_, Reads.tuple ho hc hd hr⟩
  | .dict _, _, _, h, _ => by cases h
theorem Dp.readsAll (I : Inv X pins σ H s) : ∀ (ds : List PyData) (vs : List V) (us : List Value), DpAll X.K H vs ds → Vals vs us → ∃ as, ReadsAll s.heap us ds as
  | [], _, _, h, r => by
    cases h
    cases r
    exact ⟨_, ReadsAll.nil⟩
  | d :: ds, _, _, h, r => by
    cases h with
    | cons h1 h2 =>
      cases r with
      | cons r1 r2 =>
        obtain ⟨as, q1⟩ := Dp.reads I d _ _ h1 r1
        obtain ⟨bs, q2⟩ := Dp.readsAll I ds _ _ h2 r2
        exact ⟨_, ReadsAll.cons q1 q2⟩
end
end
section
variable {X : Cx}
def rEqD (K : PySem.W.Frag) : R2 := fun x y H Q => ∃ d e, Dp K H x d ∧ Dp K H y e ∧ SeqAt.shaped d = true ∧ SeqAt.shaped e = true ∧ Q (.bl (PyData.eqv d e)) H
theorem op_eqD (hu : X.A.units + 64 < cLine) : OpR X (compareOp .Eq) (rEqD X.K) := by
  intro pins s σ H x y v u Q I rx ry h
  obtain ⟨d, e, hd, he, sd, se, q⟩ := h
  obtain ⟨as, r1⟩ := Dp.reads I d x v hd rx
  obtain ⟨bs, r2⟩ := Dp.reads I e y u he ry
  exact SeqAt.compareEq_shaped r1 r2 sd se hu ⟨.bl _, H, I, rfl, q⟩
end
end L2

namespace L2
open PySem PySem.Spec PyProof.Rows
section
variable {X : Cx} {pins : List (Addr × Obj)} {σ : St} {H : Hp} {s : Shared}
end

section
variable {X : Cx}
end

/-! ### the forms one uses -/
end L2

namespace L2
open PySem PySem.Spec PyProof.Rows

section
variable {prog : Program} {w : World} {A : Around} {R : Result → Shared → Prop} {s : Shared} {elt t0 i0 t1 i1 : Expr} {ifs0 ifs1 : List Expr} {scope : Scope} {pos : Pos} {it acc : Value} {env : Env}
end

section
variable {X : Cx}
end
end L2

namespace L2
open PySem PySem.Spec PyProof.Rows

/-! ### lists of pairs as tables -/
section
variable {κ : Type} [DecidableEq κ]
end


/-! ### a tracked dict, its keys ints and texts or tuples of these -/
section
variable {P : Program} {w : World} {H : Hp} {h : Heap} {a : Addr}
end

section
variable {X : Cx} {pins : List (Addr × Obj)} {σ : St} {H : Hp} {s : Shared} {a : Addr} {y v : V} {u r : Value} {o : Option V} {A : Around} {E : Value → Shared → Prop}

end

section
variable {X : Cx} {pins : List (Addr × Obj)} {σ : St} {H : Hp} {s : Shared} {a : Addr} {kvs : List (Key × V)} {k : Key} {u : Value} {A : Around} {E : Value → Shared → Prop}
end


/-! ### readings and rules -/
section
variable {X : Cx} {o i e value : Expr} {pos pos' tpos : Pos} {td ty tv : TE}
end


/-! ### displays -/
section
variable {X : Cx} {pos : Pos}
end

/-! ### methods -/
section
variable {X : Cx} {pins : List (Addr × Obj)} {σ : St} {H : Hp} {s : Shared} {a : Addr} {y d : V} {u r : Value} {o : Option V} {A : Around} {E : Value → Shared → Prop}
end

section
variable {X : Cx} {o e f : Expr} {apos cpos : Pos} {td ty tx : TE}
end

/-! ### dict(d): a copy -/
section
variable {X : Cx} {pins : List (Addr × Obj)} {σ : St} {H : Hp} {s : Shared} {a : Addr} {kvs : List (Key × V)} {A : Around} {E : Value → Shared → Prop}
end


section
variable {X : Cx} {pins : List (Addr × Obj)} {σ : St} {H : Hp} {s : Shared} {a : Addr} {y : V} {u : Value} {A : Around} {E : Value → Shared → Prop}
end
end L2

namespace L2
open PySem PySem.Spec PyProof.Rows

section
variable {prog : Program} {w : World} {A : Around} {E : Value → Shared → Prop}
end

section
variable {X : Cx}
end
end L2

namespace L2
open PySem PySem.Spec PyProof.Rows

section
variable {X : Cx} {pins : List (Addr × Obj)} {σ : St} {H : Hp} {s : Shared} {h' : Heap}
/-- several records of ours have turned -/
theorem Inv.turnedL {t' : Nat} {ch : List Addr} (I : Inv X pins σ H s) (k : ∀ b o, b ∉ ch → s.heap.get? b = some o → h'.get? b = some o) (hf : ∀ b ∈ ch, FpOk X pins H b) : Inv X pins σ H { s with heap := h', toks := t' } := by
  have nit : ∀ b u, H b = some u → b ∉ ch := fun b u e z => by
    have q := (hf b z).1
    rw [q] at e; cases e
  refine I.step (g' := s.gens) (d' := s.drawn) (ch := ch) (fun b hb => ⟨(hf b hb).2.2.2.1, (hf b hb).2.1, (hf b hb).2.2.2.2.1, (hf b hb).2.2.2.2.2⟩) (fun b o _ _ hc e _ => k b o hc e) (fun b o _ _ hc e _ => ⟨o.slots, k b o hc e⟩)
    (fun _ _ _ _ n => n) (fun b o hc e => ⟨o, k b o hc e⟩) (fun _ _ e => e) (fun _ _ _ e => e) (fun b ps e => ⟨#[], by rw [e]; simp⟩) (fun m hm => ?_) (fun b u e => ?_) I.bare
  · obtain ⟨o, es, ep, ho, r⟩ := hm
    exact ⟨o, es, ep, k _ o (fun z => (hf _ z).2.1 rfl) ho, r⟩
  · refine (I.hok b u e).stay (fun c v hc q => k c v ?_ q) (fun _ q => q) fun _ _ q => q
    rcases hc with z | z
    · rw [z]; exact nit b u e
    · exact nit c _ z
/-- .. and one new object is laid -/
theorem Inv.turnedNew {t' : Nat} {ch : List Addr} {T : Addr} {ob : HO} (I : Inv X pins σ H s) (k : ∀ b o, b ∉ ch → s.heap.get? b = some o → h'.get? b = some o) (hf : ∀ b ∈ ch, FpOk X pins H b) (hT : s.heap.objs.size ≤ T)
    (new : ObjOk X.prog X.w (upd H T ob) h' T ob) : Inv X pins σ (upd H T ob) { s with heap := h', toks := t' } := by
  have hn : H T = none := I.hok.fresh hT
  have nit : ∀ b u, H b = some u → b ∉ ch := fun b u e z => by
    have q := (hf b z).1
    rw [q] at e; cases e
  refine I.step (g' := s.gens) (d' := s.drawn) (ch := ch) (fun b hb => ⟨(hf b hb).2.2.2.1, (hf b hb).2.1, (hf b hb).2.2.2.2.1, (hf b hb).2.2.2.2.2⟩) (fun b o _ _ hc e _ => k b o hc e) (fun b o _ _ hc e _ => ⟨o.slots, k b o hc e⟩)
    (fun b o _ e n => ?_) (fun b o hc e => ⟨o, k b o hc e⟩) (fun b xs e => ?_) (fun b o u e => ?_) (fun b ps e => ⟨#[], ?_⟩) (fun m hm => ?_) (fun b u e => ?_) I.bare
  · rw [upd_ne (Nat.ne_of_lt (Nat.lt_of_lt_of_le (Heap.lt_size e) hT))]; exact n
  · rw [upd_ne (ne_of_none e hn)]; exact e
  · rw [upd_ne (ne_of_none e hn)]; exact e
  · rw [upd_ne (ne_of_none e hn), e]; simp
  · obtain ⟨o, es, ep, ho, r⟩ := hm
    exact ⟨o, es, ep, k _ o (fun z => (hf _ z).2.1 rfl) ho, r⟩
  · by_cases hb : b = T
    · subst hb
      rw [upd_same] at e
      cases e
      exact new
    · rw [upd_ne hb] at e
      refine (I.hok b u e).stay (fun c v hc q => k c v ?_ q) (fun c q => by rw [upd_ne (ne_of_none q hn)]; exact q) fun c xs q => by rw [upd_ne (ne_of_none q hn)]; exact q
      rcases hc with z | z
      · rw [z]; exact nit b u e
      · exact nit c _ z

/-! ### locking a thing while a statement runs -/
end
section
variable {X : Cx}
/-! ### one iterator just laid -/
theorem pi_one {tg : Expr} {pins : List (Addr × Obj)} {σ : St} {H : Hp} {s : Shared} {R : It → Hp → Prop} {J : It} {tn : Nat → Heap → Prop} {tk : Nat} (I : Inv X pins σ H s) (o : Obj)
    (T : Turn X.prog X.w X.K tg J [s.heap.objs.size] s.heap.objs.size tn) (st : tn 0 (s.heap.push o)) (q : R J H) : PIE X pins σ tg R (.ref s.heap.objs.size) { s with heap := s.heap.push o, toks := tk } := by
  refine ⟨s.heap.objs.size, [s.heap.objs.size], tn, J, H, rfl, I.kept fun b ob e => Heap.get?_push_of_some _ e, T, st, fun b hb => ?_, q⟩
  have e : b = s.heap.objs.size := by simpa using hb
  subst e
  exact I.fpOk (Nat.le_refl _) (I.hok.fresh (Nat.le_refl _))
end

/-! ### range with a step -/
/-- lo, lo + c, .. (n of them) -/
def Itc (lo c : Int) (n : Nat) : It := ⟨fun i _ => i < n, fun i H x H' => H' = H ∧ x = .int (lo + (i : Nat) * c), fun i _ => n ≤ i⟩
theorem turn_rangeC {P : Program} {w : World} {K : PySem.W.Frag} {tg : Expr} (it : Addr) (lo c : Int) (n : Nat) : Turn P w K tg (Itc lo c n) [it] it (fun i h => IsRangeIter h it (lo + (i : Nat) * c) ((n : Int) - (i : Nat)) c) where
  mem := by simp
  obj := fun i h st b hb => by
    have e : b = it := by simpa using hb
    subst e
    exact ⟨_, st, fun v z => nomatch z⟩
  keep := fun i h h' st k => k it (by simp) _ st
  item := by
    intro X hP hw hK hc i pins s σ H E I hf st hg
    subst hP hw hK
    obtain ⟨f0, f1, f2, f3, f4, f5⟩ := hf it (by simp)
    have W := Walks.range (prog := X.prog) (w := X.w) (I.ok.hd hc) it lo c n
    refine W.item i s _ _ hg st fun v h' tk hv st' kk => ?_
    obtain ⟨t, rfl⟩ := hv
    have I1 : Inv X pins σ H { s with heap := h', toks := tk } := I.turned (fun b o hb e => kk b o (by simpa using hb) e) f0 f1 f3 f4 f5
    exact ⟨_, rfl, go_of (s := { s with heap := h', toks := tk }) (n := "range_iterator") st' rfl rfl (by decide) ⟨.int (lo + (i : Nat) * c), H, I1, ⟨t, rfl⟩, ⟨rfl, rfl⟩, st', fun b hb => (hf b hb).1⟩⟩
  done := by
    intro X hP hw hK hc i pins s σ H E I hf st hg
    subst hP hw hK
    obtain ⟨f0, f1, f2, f3, f4, f5⟩ := hf it (by simp)
    exact wpAny_pyNext_range_end (I.ok.hd hc) st (by have : n ≤ i := hg; omega) fun h' eb => ⟨rfl, I.turned (t' := s.toks) (fun b o hb e => eb b o hb e) f0 f1 f3 f4 f5⟩
  self := fun A i s Q E st h => wpAny_pyIter_rangeiter st h
/-- range(i, j, c): small bounds, n items -/
def RgC (i j c : Int) (n : Nat) : Prop := c ≠ 0 ∧ c.natAbs < 1073741824 ∧ Builtin.Range.small i j c = true ∧ Builtin.Range.rangeSize i j c = n
theorem RgC.neg {i j : Int} (ha : -(2 ^ 62) ≤ i) (ha' : i < 2 ^ 62) (hb : -(2 ^ 62) ≤ j) (hb' : j < 2 ^ 62) : RgC i j (-1) (i - j).toNat :=
  ⟨by decide, by decide, PySem.W.small_down ha ha' hb hb', PySem.W.rangeSize_downNat i j⟩
def iRng3 (ta : TA) : TI := fun σ H R => ta σ H fun vs H1 => ∃ (i j c : Int) (n : Nat), vs = [.int i, .int j, .int c] ∧ RgC i j c n ∧ R (Itc i c n) H1
section
variable {X : Cx} {tg : Expr}
theorem pi_range3 {a b c : Expr} {ta : TA} {p pos : Pos} (hg : Gl X "range") (hm : X.mg "range" = none) (ha : PA X [a, b, c] ta)
    (hs : starEach [a, b, c] X.env = (false, eval a X.env) :: starEach [b, c] X.env := by rfl) (hpl : (backTo pos (starEach [b, c] X.env)).any (·.1) = false := by rfl) :
    PI X tg (.Call (.Name "range" p) [a, b, c] [] pos) (iRng3 ta) := by
  intro pins s σ H R I h
  refine Call_ (ld_blt I hg hm boot_range (PyProof.Rows.callWith_type1 (thn (ha pos pins s σ H _ I h) fun us s1 ⟨vs, H1, I1, r1, q1⟩ => ?_) hs hpl))
  obtain ⟨i, j, k, n, e, ⟨c0, c1, c2, c3⟩, q⟩ := q1
  subst e
  cases r1 with
  | cons r rr =>
    cases rr with
    | cons r' rr =>
      cases rr with
      | cons r'' rr =>
        cases rr
        obtain ⟨t, rfl⟩ := r
        obtain ⟨t', rfl⟩ := r'
        obtain ⟨t'', rfl⟩ := r''
        refine call_range_3 c0 ?_ (.inl (PyProof.noPylong_small c1))
        refine wpAny_pyIter_range (IsRange.new ..) c2 ?_
        have I2 : Inv X pins σ H1 { s1 with heap := s1.heap.push { cls := .type "range", data := .fields #[.int i t, .int j t', .int k t''] } } := I1.kept (t' := s1.toks) fun b o e => Heap.get?_push_of_some _ e
        refine pi_one (tk := s1.toks) I2 _ (turn_rangeC _ i k n) ?_ q
        have e1 : i + ((0 : Nat) : Int) * k = i := by simp
        have e2 : (n : Int) - ((0 : Nat) : Int) = Builtin.Range.rangeSize i j k := by rw [c3]; simp
        show IsRangeIter _ _ (i + ((0 : Nat) : Int) * k) ((n : Int) - ((0 : Nat) : Int)) k
        rw [e1, e2]
        exact Heap.get?_push_size _ rfl
end
/-- the turns of a step range, for the for loop -/
theorem for_rangeC {lo c : Int} {n : Nat} {g : TG} {tb : TS} {D : Ends} {σ : St} {H : Hp} (Pv : Nat → St → Hp → Prop) (h0 : Pv 0 σ H)
    (hs : ∀ i σ H, i < n → Pv i σ H → g (.int (lo + (i : Nat) * c)) σ H fun σ2 H2 => tb { D with nx := Pv (i + 1), ct := Pv (i + 1), bk := D.nx } σ2 H2) (hd : ∀ σ H, Pv n σ H → D.nx σ H) :
    ∃ W : Nat → Nat → St → Hp → Prop, (∃ m, W 0 m σ H) ∧ ∀ i m σ H, W i m σ H →
      ((Itc lo c n).stop i H ∧ D.nx σ H) ∨ ((Itc lo c n).go i H ∧ ∃ N : St → Hp → Prop, (∀ σ' H', N σ' H' → ∃ m', m' < m ∧ W (i + 1) m' σ' H') ∧ ∀ x H', (Itc lo c n).yld i H x H' → g x σ H' fun σ2 H2 => tb { D with nx := N, ct := N, bk := D.nx } σ2 H2) := by
  refine ⟨fun i m σ H => m = n - i ∧ i ≤ n ∧ Pv i σ H, ⟨n, by simp, Nat.zero_le _, h0⟩, ?_⟩
  rintro i m σ H ⟨rfl, hi, p⟩
  by_cases hlt : i < n
  · refine .inr ⟨hlt, Pv (i + 1), fun σ' H' p' => ⟨n - (i + 1), by omega, rfl, hlt, p'⟩, fun x H' y => ?_⟩
    obtain ⟨e, y⟩ := y
    subst e y
    exact hs i σ _ hlt p
  · have e : i = n := by omega
    subst e
    exact .inl ⟨Nat.le_refl _, hd σ H p⟩

/-! ### reversed(list) -/
section
variable {X : Cx} {tg : Expr}
end

/-! ### a str -/
/-! ### a dict's keys: any dict's entries -/
section
variable {prog : Program} {w : World} {A : Around} {E : Value → Shared → Prop} {s : Shared}
end

/-! ### a locked dict -/
section
variable {X : Cx} {pins : List (Addr × Obj)} {σ : St} {H : Hp} {s : Shared} {d : Addr} {o : Obj}
end

section
variable {P : Program} {w : World} {K : PySem.W.Frag} {tg : Expr} {d : Addr} {o : Obj} {es : Array DictEntry} {ep : Nat}
end

/-! ### for k in d, d.keys(), d.values(), d.items() -/
section
variable {X : Cx} {tg e : Expr} {td : TE} {apos cpos : Pos}
end

/-! ### enumerate(list) -/
/-- the list at a as it stands at each turn, each item in a new pair -/
def Ite (K : PySem.W.Frag) (a : Addr) : It :=
  ⟨fun i H => ∃ (xs : List V) (x : V), SqL K H a xs ∧ xs[i]? = some x, fun i H v H' => ∃ T x, v = .ref T ∧ H T = none ∧ H' = upd H T (.tup [.int (i : Nat), x]) ∧ ∀ xs, SqL K H a xs → xs[i]? = some x, fun i H => ∃ xs : List V, SqL K H a xs ∧ xs.length ≤ i⟩
theorem turn_enum {P : Program} {w : World} {K : PySem.W.Frag} {elts : List Expr} {kk : Nat} {tpos : Pos} (a e it : Addr) :
    Turn P w K (.Tuple elts kk tpos) (Ite K a) [e, it] e (fun i h => (∃ old, IsEnum h e it ((i : Nat) : Int) old) ∧ h.IsListIter it a i ∧ e ≠ it) where
  mem := by simp
  obj := fun i h st b hb => by
    obtain ⟨⟨old, he⟩, ⟨o, ho, hc, hd⟩, _⟩ := st
    have e' : b = e ∨ b = it := by simpa using hb
    rcases e' with z | z
    · rw [z]; exact ⟨_, he, fun v q => nomatch q⟩
    · rw [z]; exact ⟨o, ho, fun v q => by rw [hd] at q; cases q⟩
  keep := fun i h h' st k => let ⟨⟨old, he⟩, hi, hne⟩ := st; ⟨⟨old, k e (by simp) _ he⟩, hi.at fun o q => k it (by simp) o q, hne⟩
  item := by
    intro X hP hw hK hc i pins s σ H E I hf st hg
    subst hP hw hK
    obtain ⟨⟨old, he⟩, hit, hne⟩ := st
    obtain ⟨xs, x, hq, hx⟩ := hg
    obtain ⟨its, rv, p, hz⟩ := I.list hq
    obtain ⟨u, hu, ru⟩ := rv.get hx
    have hel : e < s.heap.objs.size := Heap.lt_size he
    have hil : it < s.heap.objs.size := by obtain ⟨_, q, _⟩ := hit; exact Heap.lt_size q
    refine wpAny_pyNext_enum_item he hit p.isList (x := u) (by simpa using hu) hne fun h' ho hit' hT hsz hk => ?_
    refine ⟨_, rfl, wpAny_letOwnedTupleGo_enum (s := { s with heap := h', toks := s.toks + 1 }) ho fun h'' he' sb => ?_⟩
    have hT2 : h''.get? s.heap.objs.size = some { cls := .type "tuple", data := .seq #[.int i s.toks, u] } := (sb.2 _ (Nat.ne_of_gt hel)).trans hT
    have new : ObjOk X.prog X.w (upd H s.heap.objs.size (.tup [.int (i : Nat), x])) h'' s.heap.objs.size (.tup [.int (i : Nat), x]) :=
      ⟨by show 2 ≤ sizeLine; decide, [.int i s.toks, u], .cons ⟨_, rfl⟩ (.cons ru .nil), ⟨_, hT2, rfl, _, rfl⟩⟩
    have I1 : Inv X pins σ (upd H s.heap.objs.size (.tup [.int (i : Nat), x])) { s with heap := h'', toks := s.toks + 1 } :=
      I.turnedNew (ch := [e, it]) (fun b ob hb q => (sb.2 b (fun z => hb (by simp [z]))).trans (hk b ob (fun z => hb (by simp [z])) (fun z => hb (by simp [z])) q)) hf (Nat.le_refl _) new
    refine ⟨.ref s.heap.objs.size, _, I1, rfl, ⟨_, x, rfl, I.hok.fresh (Nat.le_refl _), rfl, fun ys hy => by rw [I.list_inj hy hq]; exact hx⟩, ⟨⟨u, ?_⟩, hit'.at fun o q => (sb.2 it (Ne.symm hne)).trans q, hne⟩, fun b hb => ?_⟩
    · have e1 : ((i + 1 : Nat) : Int) = (i : Int) + 1 := by omega
      rw [e1]; exact he'
    · have hb' : b < s.heap.objs.size := by
        have e' : b = e ∨ b = it := by simpa using hb
        rcases e' with z | z
        · rw [z]; exact hel
        · rw [z]; exact hil
      rw [upd_ne (Nat.ne_of_lt hb')]
      exact (hf b hb).1
  done := by
    intro X hP hw hK hc i pins s σ H E I hf st hg
    subst hP hw hK
    obtain ⟨⟨old, he⟩, hit, hne⟩ := st
    obtain ⟨xs, hq, hx⟩ := hg
    obtain ⟨its, rv, p, hz⟩ := I.list hq
    obtain ⟨f0, f1, f2, f3, f4, f5⟩ := hf it (by simp)
    have hl := rv.length
    exact wpAny_pyNext_enum_end (I.ok.hd hc) he hit p.isList (by simp; omega) fun h' eb => ⟨rfl, I.turned (t' := s.toks) (fun b o hb q => eb b o hb q) f0 f1 f3 f4 f5⟩
  self := fun A i s Q E st h => let ⟨⟨_, he⟩, _⟩ := st; wpAny_pyIter_enum he h
def iEnum (K : PySem.W.Frag) (ta : TA) : TI := fun σ H R => ta σ H fun vs H1 => ∃ a xs, vs = [.ref a] ∧ SqL K H1 a xs ∧ R (Ite K a) H1
theorem pi_enum {X : Cx} {e : Expr} {ta : TA} {p pos tpos : Pos} {elts : List Expr} {kk : Nat} (hg : Gl X "enumerate") (hm : X.mg "enumerate" = none) (ha : PA X [e] ta) (hs : starEach [e] X.env = [(false, eval e X.env)] := by rfl) :
    PI X (.Tuple elts kk tpos) (.Call (.Name "enumerate" p) [e] [] pos) (iEnum X.K ta) := by
  intro pins s σ H R I h
  refine Call_ (ld_blt I hg hm boot_enumerate (PyProof.Rows.callWith_type1 (thn (ha pos pins s σ H _ I h) fun us s1 ⟨vs, H1, I1, r1, q1⟩ => ?_) hs rfl))
  obtain ⟨a, xs, ex, hq, q⟩ := q1
  subst ex
  cases r1 with
  | cons r rr =>
    cases rr
    cases r
    obtain ⟨its, rv, p', hz⟩ := I1.list hq
    refine call_enumerate_list p'.isList fun h' he hit hsz hk => wpAny_pyIter_enum he ?_
    have I2 : Inv X pins σ H1 { s1 with heap := h' } := I1.kept (t' := s1.toks) hk
    refine ⟨s1.heap.objs.size + 1, [s1.heap.objs.size + 1, s1.heap.objs.size], _, _, H1, rfl, I2, turn_enum a (s1.heap.objs.size + 1) s1.heap.objs.size, ⟨⟨.none, he⟩, hit, Nat.succ_ne_self _⟩, fun b hb => ?_, q⟩
    have e' : b = s1.heap.objs.size + 1 ∨ b = s1.heap.objs.size := by simpa using hb
    have hle : s1.heap.objs.size ≤ b := by
      rcases e' with z | z
      · rw [z]; exact Nat.le_add_right _ _
      · rw [z]; exact Nat.le_refl _
    exact I1.fpOk hle (I1.hok.fresh hle)
/-! ### zip(list, list) -/
theorem boot_zip5 : bootBuiltins "zip" = some (.type "zip") := by decide +kernel
end L2

section 
namespace Bits
open PySem PyProof.Rows

end Bits
end 

section 
namespace TL
open PySem PySem.Builtin PySem.Builtin.Str PySem.StrLaws

/-! ### the list functions -/
/-! ### the model's split and partition are these -/
/-! ### computing spl and par -/
/-! ### digits -/
/-! ### words: x.split() -/
end TL
end 

namespace L2
open PySem PySem.Spec PyProof.Rows

section
variable {X : Cx} {pins : List (Addr × Obj)} {σ : St} {H : Hp} {s : Shared} {Q : VK}
end

section
variable {X : Cx}

/-! ### of a text alone -/
/-! ### of a text and a text -/
end

section
variable {X : Cx} {o e : Expr} {to te : TE}
end
end L2

namespace L2
open PySem PySem.Spec PyProof.Rows

section
variable {X : Cx}
end

/-! ### slices of a text -/
end L2

namespace Att
open PySem PySem.W PySem.Calls PyProof.Rows

/-! ### the script -/
/-! ### the attachment: holds_open's last premise (the goal 'hc' behind k_head) from a wpAny of the law's body -/
/-! ### rules over ANY heap (no ledger) from facts about the written part K: the library's own take a ledger (News) for what they write -/
section
variable {prog : Program} {w : World} {A : Around} {E : Value → Shared → Prop} {s : Shared} {K : Frag}

/-! the whole heap as the ledger: makes every rule that writes through a ledger a rule over any heap -/
end
end Att

namespace L2
open PySem PySem.Spec PyProof.Rows

end L2

namespace L2
open PySem PySem.Spec PyProof.Rows

end L2



/-! SHORT WORDS over the layer: a def of the text, its body, what a loop and a test want. -/
namespace L2
open PySem PySem.Spec PyProof.Rows

/-! ### the text by places -/
/-- the j-th statement of a class's body -/
def inClass (s : Stmt) (j : Nat) : Stmt := match s with
  | .ClassDef _ _ _ body _ _ _ _ _ _ _ => body.getD j (.Pass ⟨0, 0, 0, 0⟩)
  | _ => .Pass ⟨0, 0, 0, 0⟩
def defArgs (s : Stmt) : Arguments := match s with
  | .FunctionDef _ a _ _ _ _ _ _ _ _ => a
  | _ => { posonlyargs := [], args := [], vararg := none, kwonlyargs := [], kw_defaults := [], kwarg := none, defaults := [] }
def defBody (s : Stmt) : List Stmt := match s with
  | .FunctionDef _ _ b _ _ _ _ _ _ _ => b
  | _ => []
def defScope (s : Stmt) : Scope := match s with
  | .FunctionDef _ _ _ _ _ _ sc _ _ _ => sc
  | _ => { kind := .function, names := [], isGenerator := false, isCoroutine := false }

/-! ### no exception leaves a def -/
abbrev CX0 : CXT := fun _ _ _ _ _ _ => False
abbrev E0 : XK := fun _ _ _ => False
theorem pass0 {X : Cx} : Passes CX0 X E0 := fun _ _ _ _ _ _ _ h => h.elim

/-! ### a def (or method) of the text as it stands behind the top -/
structure Fun (K : PySem.W.Frag) (x qual : Str) (st : Stmt) (f : Addr) (fd : FuncData) : Prop where
  ex : ∃ (oc : Value) (od : Option Addr) (kV doc pm : Value) (an : Option Addr) (cdv ct : Value) (osl : Array (Option Value)),
    fd = PySem.W.fnOf x qual (defArgs st) (defBody st) (defScope st) .none kV doc pm an cdv ct ∧ K.lookup f = some ⟨oc, od, .func fd, osl⟩ ∧ PySem.W.codeIn K cdv qual = true
  kp : PySem.W.keepIn K (.ref f) = true
section
variable {P : Program} {w : World} {K : PySem.W.Frag} {mg : Str → Option Value} {base : Heap}
/-- THE RULE for a def: its body as a term of rules, and the reading of that term -/
theorem Fun.ok {x qual : Str} {st : Stmt} {f : Addr} {fd : FuncData} {N ps : List Str} {k : Nat} {sp : Sp} (F : Fun K x qual st f fd) (S : FnScope N ps (defScope st)) (len : ∀ vs H Q E, sp vs H Q E → vs.length = ps.length)
    (hbody : ∀ (cdv : Value) (A : Around) (outer : List Env) (s : Shared) (H : Hp) (vs : List V) (Q : VK) (E : XK), Room k (A.deeper (envOfC qual (defScope st) s.heap.objs.size f cdv)) → sp vs H Q E →
      ∃ t, PSs (cxOf CX0 P w K mg base N qual (defScope st) f cdv A outer s H E).nox (defBody st) t ∧ t { nx := fun _ H' => Q .non H', rt := Q } (start N vs) H) : FnOk P w K mg base CX0 (k + 1) f fd ps sp := by
  obtain ⟨oc, od, kV, doc, pm, an, cdv, ct, osl, rfl, lk, hcd⟩ := F.ex
  refine fn_of lk hcd S len fun A outer s H vs Q E hr hsp => ?_
  obtain ⟨t, h, q⟩ := hbody cdv A outer s H vs Q E hr hsp
  exact ⟨t, h.nox, q⟩
/-- how its arguments bind (no defaults): h is «fun _ _ _ _ _ _ us hl => match us, hl with | [_, _], _ => rfl», one _ a parameter -/
theorem Fun.binds {x qual : Str} {st : Stmt} {f : Addr} {fd : FuncData} {ps : List Str} (F : Fun K x qual st f fd)
    (h : ∀ (kV doc pm : Value) (an : Option Addr) (cdv ct : Value) (us : List Value), us.length = ps.length → bindArgs (PySem.W.fnOf x qual (defArgs st) (defBody st) (defScope st) .none kV doc pm an cdv ct) ⟨us, []⟩ = pure (ps.zip us)) : Binds K fd ps [] := by
  obtain ⟨oc, od, kV, doc, pm, an, cdv, ct, osl, rfl, lk, hcd⟩ := F.ex
  exact .all (h kV doc pm an cdv ct)
theorem fun_mk {x qual : Str} {st : Stmt} {f : Addr} {oc : Value} {od an : Option Addr} {osl : Array (Option Value)} {kV doc pm cdv ct : Value} (l : K.lookup f = some ⟨oc, od, .func (PySem.W.fnOf x qual (defArgs st) (defBody st) (defScope st) .none kV doc pm an cdv ct), osl⟩)
    (c : PySem.W.codeIn K cdv qual = true) (k : PySem.W.keepIn K (.ref f) = true) : Fun K x qual st f (PySem.W.fnOf x qual (defArgs st) (defBody st) (defScope st) .none kV doc pm an cdv ct) := ⟨⟨oc, od, kV, doc, pm, an, cdv, ct, osl, rfl, l, c⟩, k⟩
end
/-! ### expressions in short: the name that stands in the i-th slot -/
section
variable {X : Cx}
theorem pv (i : Nat) {x : Str} {pos : Pos} (hN : X.N[i]? = some x := by rfl) (hv : Vis X.env.scope x := by first | exact Or.inl rfl | exact Or.inr (Or.inl rfl) | exact Or.inr (Or.inr rfl)) (hd : (x == ("__debug__" : Str)) = false := by decide)
    (hcd : (x == ("__classdict__" : Str)) = false := by decide) : PE X (.Name x pos) (tVar i) := pe_var hN hv hd hcd
end

/-! ### tests -/
theorem iteF {A B : Prop} (h : B) : if false = true then A else B := by
  rw [if_neg Bool.false_ne_true]
  exact h
theorem iteT {A B : Prop} (h : A) : if true = true then A else B := by
  rw [if_pos rfl]
  exact h
theorem ite2 {c A B : Prop} [Decidable c] (h1 : c → A) (h2 : ¬ c → B) : if c then A else B := by
  by_cases h : c
  · rw [if_pos h]
    exact h1 h
  · rw [if_neg h]
    exact h2 h
/-! ### heaps -/
/-- all that was tracked is as it was -/
def Same (H H' : Hp) : Prop := ∀ b o, H b = some o → H' b = some o
theorem Same.refl (H : Hp) : Same H H := fun _ _ h => h
theorem Same.trans {H H1 H2 : Hp} (a : Same H H1) (b : Same H1 H2) : Same H H2 := fun c o h => b c o (a c o h)
theorem Same.free {H H' : Hp} (e : Same H H') {l : Addr} (h : H' l = Option.none) : H l = Option.none := by
  cases q : H l with
  | none => rfl
  | some o =>
    rw [e l o q] at h
    cases h
theorem Same.seq {K : PySem.W.Frag} {H H' : Hp} {a : Addr} {xs : List V} (e : Same H H') (h : SqL K H a xs) : SqL K H' a xs := by
  rcases h with (h | ⟨o, h⟩) | h
  · exact .inl (.inl (e _ _ h))
  · exact .inl (.inr ⟨o, e _ _ h⟩)
  · exact .inr h

/-! ### a dict's pairs: keys that differ -/
section
variable {κ : Type} [DecidableEq κ]
end
/-! ### lists -/
theorem at_of {xs : List V} {z : Int} {j : Nat} {v : V} (e : z = (j : Int)) (h : xs[j]? = some v) : atI xs z = some v := by
  rw [e]
  exact atI_nat h
/-- a new instance and its __init__ leave all that was tracked as it was -/
theorem Same.made {H H1 : Hp} {x dx C : Addr} (nx : H x = Option.none) (nd : H dx = Option.none) (k : ∀ b o, (upd (upd H dx (.own x)) x (.ins C dx [])) b = some o → b ≠ x → H1 b = some o) : Same H H1 := fun b o e =>
  k b o (by rw [upd_ne (ne_of_none e nx), upd_ne (ne_of_none e nd)]; exact e) (ne_of_none e nx)
end L2

namespace L2
open PySem PySem.Spec PyProof.Rows
open PySem.W (WData Codec OpenSpec Well WellAll ReadsW ReadsAllW)
/-! ### an answer as data -/
mutual
/-- x stands for the datum d, lists and tuples all the way -/
inductive Dw (K : PySem.W.Frag) (H : Hp) : V → WData → Prop
  | non : Dw K H .non .none
  | bl (b : Bool) : Dw K H (.bl b) (.bool b)
  | int (i : Int) : Dw K H (.int i) (.int i)
  | str (x : Str) : Dw K H (.str x) (.str x)
  | byt (b : Array UInt8) : Dw K H (.byt b) (.bytes b.toList)
  | lst {a : Addr} {xs : List V} {ds : List WData} : SqL K H a xs → DwAll K H xs ds → Dw K H (.ref a) (.list ds)
  | tup {a : Addr} {xs : List V} {ds : List WData} : SqT K H a xs → DwAll K H xs ds → Dw K H (.ref a) (.tuple ds)
inductive DwAll (K : PySem.W.Frag) (H : Hp) : List V → List WData → Prop
  | nil : DwAll K H [] []
  | cons {v : V} {vs : List V} {d : WData} {ds : List WData} : Dw K H v d → DwAll K H vs ds → DwAll K H (v :: vs) (d :: ds)
end
theorem dw_ints {K : PySem.W.Frag} {H : Hp} : ∀ ns : List Int, DwAll K H (ns.map V.int) (ns.map WData.int)
  | [] => .nil
  | n :: r => .cons (.int n) (dw_ints r)
theorem ints_dw {K : PySem.W.Frag} {H : Hp} : ∀ (ns : List Int) (xs : List V), DwAll K H xs (ns.map WData.int) → xs = ns.map V.int
  | [], xs, h => by
    cases h
    rfl
  | n :: r, xs, h => by
    cases h with
    | cons h1 h2 =>
      cases h1
      rw [ints_dw r _ h2] <;> rfl
section
variable {P : Program} {w : World} {K : PySem.W.Frag} {H : Hp} {h : Heap} {R : PySem.W.WRecords} {cl : Str → Option Addr}
theorem sqL_at {a : Addr} {xs : List V} (hok : HOk P w H h) (KX : K.In h) (q : SqL K H a xs) : ∃ (its : List Value) (o : Obj) (n : Nat), Vals xs its ∧ h.get? a = some o ∧ o.cls = .type "list" ∧ o.data = .seq its.toArray n := by
  rcases q with q | ⟨o, its, n, e, hc, _, hd, _, hv⟩
  · obtain ⟨_, its, n, hv, e⟩ := (show ObjOk P w H h a (.lst xs) from q.ok hok)
    exact ⟨its, _, n, hv, e, rfl, rfl⟩
  · exact ⟨its.toList, o, n, hv, KX _ _ e, hc, by simp [hd]⟩
theorem sqT_at {a : Addr} {xs : List V} (hok : HOk P w H h) (KX : K.In h) (q : SqT K H a xs) : ∃ (its : List Value) (o : Obj) (n : Nat), Vals xs its ∧ h.get? a = some o ∧ o.cls = .type "tuple" ∧ o.data = .seq its.toArray n := by
  rcases q with q | ⟨o, its, n, e, hc, hd, _, hv⟩
  · obtain ⟨_, its, hv, o, e, hc, n, hd⟩ := (show ObjOk P w H h a (.tup xs) from q.ok hok)
    exact ⟨its, o, n, hv, e, hc, hd⟩
  · exact ⟨its.toList, o, n, hv, KX _ _ e, hc, by simp [hd]⟩
mutual
theorem Dw.reads (hok : HOk P w H h) (KX : K.In h) : ∀ (d : WData) (v : V) (u : Value), Dw K H v d → RelV v u → ∃ as, ReadsW R cl h u d as
  | .none, _, _, x, r => by
    cases x
    cases r
    exact ⟨_, ReadsW.none⟩
  | .bool b, _, _, x, r => by
    cases x
    cases r
    exact ⟨_, ReadsW.bool b⟩
  | .int i, _, _, x, r => by
    cases x
    obtain ⟨t, rfl⟩ := r
    exact ⟨_, ReadsW.int i t⟩
  | .str s, _, _, x, r => by
    cases x
    obtain ⟨t, rfl⟩ := r
    exact ⟨_, ReadsW.str s t⟩
  | .bytes b, _, _, x, r => by
    cases x
    obtain ⟨t, rfl⟩ := r
    exact ⟨_, ReadsW.bytes _ t⟩
  | .list ds, _, _, x, r => by
    cases x with
    | lst hs ha =>
      cases r
      obtain ⟨its, o, n, rv, ho, hc, hd⟩ := sqL_at hok KX hs
      obtain ⟨as, hr⟩ := Dw.readsAll hok KX ds _ its ha rv
      exact ⟨_, ReadsW.list ho hc hd hr⟩
  | .tuple ds, _, _, x, r => by
    cases x with
    | tup hs ha =>
      cases r
      obtain ⟨its, o, n, rv, ho, hc, hd⟩ := sqT_at hok KX hs
      obtain ⟨as, hr⟩ := Dw.readsAll hok KX ds _ its ha rv
      exact ⟨_, ReadsW.tuple ho hc hd hr⟩
  | .float _, _, _, x, _ => by cases x
  | .dict _, _, _, x, _ => by cases x
  | .bytearray _, _, _, x, _ => by cases x
  | .set _, _, _, x, _ => by cases x
  | .frozenset _, _, _, x, _ => by cases x
  | .obj _ _, _, _, x, _ => by cases x
theorem Dw.readsAll (hok : HOk P w H h) (KX : K.In h) : ∀ (ds : List WData) (vs : List V) (us : List Value), DwAll K H vs ds → Vals vs us → ∃ as, ReadsAllW R cl h us ds as
  | [], _, _, x, r => by
    cases x
    cases r
    exact ⟨_, ReadsAllW.nil⟩
  | d :: ds, _, _, x, r => by
    cases x with
    | cons h1 h2 =>
      cases r with
      | cons r1 r2 =>
        obtain ⟨as, q1⟩ := Dw.reads hok KX d _ _ h1 r1
        obtain ⟨bs, q2⟩ := Dw.readsAll hok KX ds _ _ h2 r2
        exact ⟨_, ReadsAllW.cons q1 q2⟩
end
end
/-! ### the arguments -/
mutual
/-- data that a codec tells -/
def plW : WData → Bool
  | .none => true
  | .bool _ => true
  | .int _ => true
  | .str _ => true
  | .bytes _ => true
  | .list xs => plWs xs
  | .tuple xs => plWs xs
  | _ => false
def plWs : List WData → Bool
  | [] => true
  | x :: r => plW x && plWs r
end
theorem plWs_map {α : Type} {f : α → WData} (h : ∀ a, plW (f a) = true) : ∀ l : List α, plWs (l.map f) = true
  | [] => rfl
  | x :: r => by
    show (plW (f x) && plWs (r.map f)) = true
    rw [h x, plWs_map h r] <;> rfl
theorem pl_enc : ∀ (c : Codec) (a : c.denote), plW (c.enc a) = true
  | .unit, _ => rfl
  | .bool, _ => rfl
  | .int _ _, _ => rfl
  | .nat _ _, _ => rfl
  | .u8, _ => rfl
  | .bytes _ _, _ => rfl
  | .text _ _ _ _, _ => rfl
  | .list _ _ c, a => plWs_map (fun x => pl_enc c x) a
  | .pair c d, a => by
    show (plW (c.enc a.1) && (plW (d.enc a.2) && true)) = true
    rw [pl_enc c a.1, pl_enc d a.2] <;> rfl
  | .triple c d e, a => by
    show (plW (c.enc a.1) && (plW (d.enc a.2.1) && (plW (e.enc a.2.2) && true))) = true
    rw [pl_enc c a.1, pl_enc d a.2.1, pl_enc e a.2.2] <;> rfl
  | .option c, none => rfl
  | .option c, some x => pl_enc c x
theorem pl_encAll : ∀ (cs : List Codec) (a : Codec.denoteAll cs), plWs (Codec.encAll cs a) = true
  | [], _ => rfl
  | c :: cs, a => by
    show (plW (c.enc a.1) && plWs (Codec.encAll cs a.2)) = true
    rw [pl_enc c a.1, pl_encAll cs a.2] <;> rfl
theorem weight_mem : ∀ {xs : List WData} {d : WData}, d ∈ xs → d.weight ≤ WData.weightAll xs
  | [], d, h => absurd h (by simp)
  | x :: r, d, h => by
    show d.weight ≤ x.weight + 1 + WData.weightAll r
    rcases List.mem_cons.mp h with e | m
    · rw [e]
      omega
    · have z := weight_mem m
      omega
def toV : Value → V
  | .none => .non
  | .bool b => .bl b
  | .int i _ => .int i
  | .str x _ => .str x
  | .bytes b _ => .byt b
  | .ref a => .ref a
  | _ => .non
/-- a value of the arguments, its objects among A -/
def OkU (A : List Addr) : Value → Prop
  | .none => True
  | .bool _ => True
  | .int _ _ => True
  | .str _ _ => True
  | .bytes _ _ => True
  | .ref a => a ∈ A
  | _ => False
theorem OkU.mono {A B : List Addr} (h : ∀ a ∈ A, a ∈ B) : ∀ {u : Value}, OkU A u → OkU B u := fun {u} x => by
  cases u with
  | ref a => exact h a x
  | none => trivial
  | bool b => trivial
  | int i t => trivial
  | str s t => trivial
  | bytes b t => trivial
  | _ => exact False.elim x
theorem relV_toV {A : List Addr} {u : Value} (x : OkU A u) : RelV (toV u) u := by
  cases u with
  | ref a => rfl
  | none => rfl
  | bool b => rfl
  | int i t => exact ⟨t, rfl⟩
  | str s t => exact ⟨t, rfl⟩
  | bytes b t => exact ⟨t, rfl⟩
  | _ => exact False.elim x
theorem vals_toV {A : List Addr} : ∀ {vs : List Value}, (∀ u ∈ vs, OkU A u) → Vals (vs.map toV) vs
  | [], _ => .nil
  | u :: r, h => .cons (relV_toV (h u (List.mem_cons_self ..))) (vals_toV fun x hx => h x (List.mem_cons_of_mem _ hx))
/-- an object of the arguments -/
def ArgOb (h : Heap) (A : List Addr) (a : Addr) : Prop := ∃ vs : List Value, vs.length ≤ sizeLine ∧ (∀ u ∈ vs, OkU A u) ∧
  (h.get? a = some { cls := .type "list", data := .seq vs.toArray } ∨ h.get? a = some { cls := .type "tuple", data := .seq vs.toArray })
theorem ArgOb.mono {h : Heap} {A B : List Addr} {a : Addr} (k : ∀ a ∈ A, a ∈ B) (x : ArgOb h A a) : ArgOb h B a := by
  obtain ⟨vs, h1, h2, h3⟩ := x
  exact ⟨vs, h1, fun u hu => (h2 u hu).mono k, h3⟩
theorem wellAll_len {P : Params} {h : Heap} : ∀ {vs : List Value} {ds : List WData}, WellAll P h vs ds → vs.length = ds.length
  | _, _, .nil => rfl
  | _, _, .cons _ b => by
    show _ + 1 = _ + 1
    rw [wellAll_len b]
theorem well_list {P : Params} {h : Heap} {v : Value} {ds : List WData} (x : Well P h v (.list ds)) : ∃ (a : Addr) (vs : List Value), v = .ref a ∧ h.get? a = some { cls := .type "list", data := .seq vs.toArray } ∧ WellAll P h vs ds := by
  cases x with
  | list ho hall => exact ⟨_, _, rfl, ho, hall⟩
theorem well_tuple {P : Params} {h : Heap} {v : Value} {ds : List WData} (x : Well P h v (.tuple ds)) : ∃ (a : Addr) (vs : List Value), v = .ref a ∧ h.get? a = some { cls := .type "tuple", data := .seq vs.toArray } ∧ WellAll P h vs ds := by
  cases x with
  | tuple ho hall => exact ⟨_, _, rfl, ho, hall⟩
theorem well_cons {P : Params} {h : Heap} {us : List Value} {d : WData} {ds : List WData} (x : WellAll P h us (d :: ds)) : ∃ (v : Value) (vs : List Value), us = v :: vs ∧ Well P h v d ∧ WellAll P h vs ds := by
  cases x with
  | cons a b => exact ⟨_, _, rfl, a, b⟩
theorem line_of {n : Nat} (h : n ≤ 1048576) : n ≤ sizeLine := Nat.le_trans h (by decide)
section
variable {P : Params} {h : Heap}
mutual
theorem area_one : ∀ (d : WData) (v : Value), Well P h v d → plW d = true → d.weight ≤ 1048576 → ∃ A : List Addr, OkU A v ∧ ∀ a ∈ A, ArgOb h A a
  | .none, _, x, _, _ => by
    cases x
    exact ⟨[], trivial, fun a m => absurd m (by simp)⟩
  | .bool b, _, x, _, _ => by
    cases x
    exact ⟨[], trivial, fun a m => absurd m (by simp)⟩
  | .int i, _, x, _, _ => by
    cases x
    exact ⟨[], trivial, fun a m => absurd m (by simp)⟩
  | .str s, _, x, _, _ => by
    cases x
    exact ⟨[], trivial, fun a m => absurd m (by simp)⟩
  | .bytes b, _, x, _, _ => by
    cases x
    exact ⟨[], trivial, fun a m => absurd m (by simp)⟩
  | .list ds, _, x, p, z => by
    obtain ⟨a, vs, rfl, ho, hall⟩ := well_list x
    have z2 : WData.weightAll ds ≤ 1048576 := z
    obtain ⟨A, h1, h2⟩ := area_all ds _ hall p fun d hd => Nat.le_trans (weight_mem hd) z2
    have k : ∀ b ∈ A, b ∈ a :: A := fun b hb => List.mem_cons_of_mem _ hb
    refine ⟨a :: A, List.mem_cons_self .., fun b hb => ?_⟩
    rcases List.mem_cons.mp hb with e | m
    · rw [e]
      exact ⟨vs, line_of (by rw [wellAll_len hall]; exact Nat.le_trans (PySem.W.length_le_weightAllW ds) z2), fun u hu => (h1 u hu).mono k, .inl ho⟩
    · exact (h2 b m).mono k
  | .tuple ds, _, x, p, z => by
    obtain ⟨a, vs, rfl, ho, hall⟩ := well_tuple x
    have z2 : WData.weightAll ds ≤ 1048576 := z
    obtain ⟨A, h1, h2⟩ := area_all ds _ hall p fun d hd => Nat.le_trans (weight_mem hd) z2
    have k : ∀ b ∈ A, b ∈ a :: A := fun b hb => List.mem_cons_of_mem _ hb
    refine ⟨a :: A, List.mem_cons_self .., fun b hb => ?_⟩
    rcases List.mem_cons.mp hb with e | m
    · rw [e]
      exact ⟨vs, line_of (by rw [wellAll_len hall]; exact Nat.le_trans (PySem.W.length_le_weightAllW ds) z2), fun u hu => (h1 u hu).mono k, .inr ho⟩
    · exact (h2 b m).mono k
  | .float _, _, _, p, _ => Bool.noConfusion (show false = true from p)
  | .dict _, _, _, p, _ => Bool.noConfusion (show false = true from p)
  | .bytearray _, _, _, p, _ => Bool.noConfusion (show false = true from p)
  | .set _, _, _, p, _ => Bool.noConfusion (show false = true from p)
  | .frozenset _, _, _, p, _ => Bool.noConfusion (show false = true from p)
  | .obj _ _, _, _, p, _ => Bool.noConfusion (show false = true from p)
theorem area_all : ∀ (ds : List WData) (vs : List Value), WellAll P h vs ds → plWs ds = true → (∀ d ∈ ds, d.weight ≤ 1048576) → ∃ A : List Addr, (∀ u ∈ vs, OkU A u) ∧ ∀ a ∈ A, ArgOb h A a
  | [], _, x, _, _ => by
    cases x
    exact ⟨[], fun u m => absurd m (by simp), fun a m => absurd m (by simp)⟩
  | d :: ds, _, x, p, z => by
    obtain ⟨v, vs, rfl, x1, x2⟩ := well_cons x
    have q : plW d = true ∧ plWs ds = true := Bool.and_eq_true_iff.mp p
    obtain ⟨A, a1, a2⟩ := area_one d v x1 q.1 (z d (List.mem_cons_self ..))
    obtain ⟨B, b1, b2⟩ := area_all ds vs x2 q.2 fun e he => z e (List.mem_cons_of_mem _ he)
    have kA : ∀ b ∈ A, b ∈ A ++ B := fun b hb => List.mem_append.mpr (.inl hb)
    have kB : ∀ b ∈ B, b ∈ A ++ B := fun b hb => List.mem_append.mpr (.inr hb)
    refine ⟨A ++ B, fun u hu => ?_, fun b hb => ?_⟩
    · rcases List.mem_cons.mp hu with e | m
      · rw [e]
        exact a1.mono kA
      · exact (b1 u m).mono kB
    · rcases List.mem_append.mp hb with m | m
      · exact (a2 b m).mono kA
      · exact (b2 b m).mono kB
end
end
/-- what is tracked of an argument's object -/
def hoOf (o : Obj) : Option HO := match o.data with
  | .seq vs _ => if (o.cls == Value.type "list") = true then some (.frz o (.lst (vs.toList.map toV))) else some (.frz o (.tup (vs.toList.map toV)))
  | _ => none
def argH (K : PySem.W.Frag) (h : Heap) (A : List Addr) : Hp := fun b => if b ∈ A then (if (K.lookup b).isNone = true then (h.get? b).bind hoOf else none) else none
/-- nothing is tracked but what is known to the object -/
def OnlyF (H : Hp) : Prop := ∀ b, H b = none ∨ ∃ o u, H b = some (.frz o u)
theorem hoOf_lst (vs : List Value) : hoOf { cls := .type "list", data := .seq vs.toArray } = some (.frz { cls := .type "list", data := .seq vs.toArray } (.lst (vs.map toV))) := by
  show (if (Value.type "list" == Value.type "list") = true then some (HO.frz { cls := .type "list", data := .seq vs.toArray } (.lst (vs.toArray.toList.map toV))) else some (HO.frz { cls := .type "list", data := .seq vs.toArray } (.tup (vs.toArray.toList.map toV)))) = _
  rw [if_pos (beq_self_eq_true _)]
theorem hoOf_tup (vs : List Value) : hoOf { cls := .type "tuple", data := .seq vs.toArray } = some (.frz { cls := .type "tuple", data := .seq vs.toArray } (.tup (vs.map toV))) := by
  show (if (Value.type "tuple" == Value.type "list") = true then some (HO.frz { cls := .type "tuple", data := .seq vs.toArray } (.lst (vs.toArray.toList.map toV))) else some (HO.frz { cls := .type "tuple", data := .seq vs.toArray } (.tup (vs.toArray.toList.map toV)))) = _
  rw [if_neg (by decide)]
section
variable {P : Program} {w : World} {K : PySem.W.Frag} {h : Heap} {A : List Addr}
theorem argH_at {b : Addr} {o : Obj} (hb : b ∈ A) (hk : K.lookup b = none) (e : h.get? b = some o) : argH K h A b = hoOf o := by
  unfold argH
  rw [if_pos hb, hk, if_pos (show (none : Option Obj).isNone = true from rfl), e] <;> rfl
theorem of_argH {b : Addr} {u : HO} (q : argH K h A b = some u) : b ∈ A ∧ K.lookup b = none := by
  unfold argH at q
  by_cases hb : b ∈ A
  · rw [if_pos hb] at q
    cases hk : K.lookup b with
    | none => exact ⟨hb, rfl⟩
    | some o =>
      rw [hk, if_neg (by simp)] at q
      cases q
  · rw [if_neg hb] at q
    cases q
/-- what stands tracked -/
theorem argH_is (ar : ∀ a ∈ A, ArgOb h A a) {b : Addr} {u : HO} (q : argH K h A b = some u) : K.lookup b = none ∧ ∃ vs : List Value, vs.length ≤ sizeLine ∧ (∀ u ∈ vs, OkU A u) ∧
    ((h.get? b = some { cls := .type "list", data := .seq vs.toArray } ∧ u = .frz { cls := .type "list", data := .seq vs.toArray } (.lst (vs.map toV))) ∨
     (h.get? b = some { cls := .type "tuple", data := .seq vs.toArray } ∧ u = .frz { cls := .type "tuple", data := .seq vs.toArray } (.tup (vs.map toV)))) := by
  obtain ⟨hb, hk⟩ := of_argH q
  obtain ⟨vs, h1, h2, h3⟩ := ar b hb
  refine ⟨hk, vs, h1, h2, ?_⟩
  rcases h3 with e | e
  · rw [argH_at hb hk e, hoOf_lst] at q
    exact .inl ⟨e, (Option.some.inj q).symm⟩
  · rw [argH_at hb hk e, hoOf_tup] at q
    exact .inr ⟨e, (Option.some.inj q).symm⟩
theorem argH_only (ar : ∀ a ∈ A, ArgOb h A a) : OnlyF (argH K h A) := fun b => by
  cases q : argH K h A b with
  | none => exact .inl rfl
  | some u =>
    obtain ⟨_, vs, _, _, ⟨_, e⟩ | ⟨_, e⟩⟩ := argH_is ar q
    · exact .inr ⟨_, _, by rw [e]⟩
    · exact .inr ⟨_, _, by rw [e]⟩
theorem argH_ok (ar : ∀ a ∈ A, ArgOb h A a) : HOk P w (argH K h A) h := fun b u q => by
  obtain ⟨_, vs, h1, h2, ⟨e, rfl⟩ | ⟨e, rfl⟩⟩ := argH_is ar q
  · exact ⟨e, by rw [List.length_map]; exact h1, vs, _, vals_toV h2, e⟩
  · exact ⟨e, by rw [List.length_map]; exact h1, vs, vals_toV h2, _, e, rfl, _, rfl⟩
theorem seq_inj {c c' : Value} {vs us : List Value} (e : (some { cls := c, data := .seq vs.toArray } : Option Obj) = some { cls := c', data := .seq us.toArray }) : c = c' ∧ vs = us := by
  have e1 := Option.some.inj e
  have e2 : c = c' := congrArg Obj.cls e1
  have e3 : Data.seq vs.toArray = Data.seq us.toArray := congrArg Obj.data e1
  injection e3 with e4
  refine ⟨e2, ?_⟩
  have e5 := congrArg Array.toList e4
  simpa using e5
/-- a list argument -/
theorem argL (KX : K.In h) (ar : ∀ a ∈ A, ArgOb h A a) {a : Addr} {vs : List Value} (ha : a ∈ A) (e : h.get? a = some { cls := .type "list", data := .seq vs.toArray }) : (∀ u ∈ vs, OkU A u) ∧ SqL K (argH K h A) a (vs.map toV) := by
  obtain ⟨us, h1, h2, h3⟩ := ar a ha
  have hu : us = vs := by
    rcases h3 with q | q
    · rw [e] at q
      exact (seq_inj q).2.symm
    · rw [e] at q
      exact absurd (Value.type.inj (seq_inj q).1) (by decide)
  subst hu
  refine ⟨h2, ?_⟩
  cases hk : K.lookup a with
  | none => exact .inl (.inr ⟨_, by rw [argH_at ha hk e, hoOf_lst]⟩)
  | some o =>
    have e2 := KX a o hk
    rw [e] at e2
    obtain rfl := Option.some.inj e2
    exact .inr ⟨_, us.toArray, _, hk, rfl, rfl, rfl, by rw [List.size_toArray]; exact h1, by simpa using vals_toV h2⟩
theorem argT (KX : K.In h) (ar : ∀ a ∈ A, ArgOb h A a) {a : Addr} {vs : List Value} (ha : a ∈ A) (e : h.get? a = some { cls := .type "tuple", data := .seq vs.toArray }) : (∀ u ∈ vs, OkU A u) ∧ SqT K (argH K h A) a (vs.map toV) := by
  obtain ⟨us, h1, h2, h3⟩ := ar a ha
  have hu : us = vs := by
    rcases h3 with q | q
    · rw [e] at q
      exact absurd (Value.type.inj (seq_inj q).1) (by decide)
    · rw [e] at q
      exact (seq_inj q).2.symm
  subst hu
  refine ⟨h2, ?_⟩
  cases hk : K.lookup a with
  | none => exact .inl (.inr ⟨_, by rw [argH_at ha hk e, hoOf_tup]⟩)
  | some o =>
    have e2 := KX a o hk
    rw [e] at e2
    obtain rfl := Option.some.inj e2
    exact .inr ⟨_, us.toArray, _, hk, rfl, rfl, by rw [List.size_toArray]; exact h1, by simpa using vals_toV h2⟩
mutual
theorem dw_one {Pm : Params} (KX : K.In h) (ar : ∀ a ∈ A, ArgOb h A a) : ∀ (d : WData) (v : Value), Well Pm h v d → plW d = true → OkU A v → Dw K (argH K h A) (toV v) d
  | .none, _, x, _, _ => by
    cases x
    exact .non
  | .bool b, _, x, _, _ => by
    cases x
    exact .bl b
  | .int i, _, x, _, _ => by
    cases x
    exact .int i
  | .str s, _, x, _, _ => by
    cases x
    exact .str s
  | .bytes b, _, x, _, _ => by
    cases x
    have z := Dw.byt (K := K) (H := argH K h A) b.toArray
    exact z
  | .list ds, _, x, p, hu => by
    obtain ⟨a, vs, rfl, ho, hall⟩ := well_list x
    obtain ⟨h2, hs⟩ := argL KX ar hu ho
    exact .lst hs (dw_all KX ar ds _ hall p h2)
  | .tuple ds, _, x, p, hu => by
    obtain ⟨a, vs, rfl, ho, hall⟩ := well_tuple x
    obtain ⟨h2, hs⟩ := argT KX ar hu ho
    exact .tup hs (dw_all KX ar ds _ hall p h2)
  | .float _, _, _, p, _ => Bool.noConfusion (show false = true from p)
  | .dict _, _, _, p, _ => Bool.noConfusion (show false = true from p)
  | .bytearray _, _, _, p, _ => Bool.noConfusion (show false = true from p)
  | .set _, _, _, p, _ => Bool.noConfusion (show false = true from p)
  | .frozenset _, _, _, p, _ => Bool.noConfusion (show false = true from p)
  | .obj _ _, _, _, p, _ => Bool.noConfusion (show false = true from p)
theorem dw_all {Pm : Params} (KX : K.In h) (ar : ∀ a ∈ A, ArgOb h A a) : ∀ (ds : List WData) (vs : List Value), WellAll Pm h vs ds → plWs ds = true → (∀ u ∈ vs, OkU A u) → DwAll K (argH K h A) (vs.map toV) ds
  | [], _, x, _, _ => by
    cases x
    exact .nil
  | d :: ds, _, x, p, hu => by
    obtain ⟨v, vs, rfl, x1, x2⟩ := well_cons x
    have q : plW d = true ∧ plWs ds = true := Bool.and_eq_true_iff.mp p
    exact .cons (dw_one KX ar d v x1 q.1 (hu _ (List.mem_cons_self ..))) (dw_all KX ar ds vs x2 q.2 fun u m => hu u (List.mem_cons_of_mem _ m))
end
end
/-! ### the call -/
theorem spec_call {P : Program} {w : World} {K : PySem.W.Frag} {mg mb : Str → Option Value} {CX : CXT} {k : Nat} {fa : Addr} {fd : FuncData} {ps : List Str} {sp : Sp} {s₁ : Shared} {vals : List Value} {ds : List WData} {R : PySem.W.WRecords} {cl : Str → Option Addr} {d0 : WData}
    (KX : K.In s₁.heap) (hns : s₁.heap.Ns mainGlobals mg) (hb : s₁.heap.Ns builtinsNs mb) (hbb : ∀ x : Str, x ≠ "__name__" → mb x = bootBuiltins x) (hlim : s₁.heap.NoLimit) (hg : s₁.gens = #[])
    (hwl : WellAll w.params s₁.heap vals ds) (hpl : plWs ds = true) (hwt : ∀ d ∈ ds, d.weight ≤ 1048576) (hr : Room k callerA)
    (F : ∀ base : Heap, K.In base → base.Ns mainGlobals mg → FnOk P w K mg base CX k fa fd ps sp) (hbind : ∀ (s : Shared) (us : List Value), us.length = ps.length → BindsTo s fd ⟨us, []⟩ (ps.zip us)) (hlen : ds.length = ps.length)
    (hsp : ∀ (H : Hp) (xs : List V), OnlyF H → DwAll K H xs ds → sp xs H (fun v H' => Dw K H' v d0) fun _ _ _ => False)
    (hCX : ∀ H e s', CX [] H s₁ (fun _ _ _ => False) e s' → False) :
    codeAny (model P w) callerA (.call (.ref fa) ⟨vals, []⟩) (fun r s' => ∃ u as, r = .ok (.ret u) ∧ ReadsW R cl s'.heap u d0 as ∧ OldK s₁.heap s'.heap ∧ s'.os = s₁.os ∧ AllBare s'.gens) s₁ := by
  obtain ⟨A, ho, ar⟩ := area_all ds vals hwl hpl hwt
  have hO : OnlyF (argH K s₁.heap A) := argH_only ar
  have hok : HOk P w (argH K s₁.heap A) s₁.heap := argH_ok ar
  have hS := dw_all KX ar ds vals hwl hpl ho
  have hV := vals_toV ho
  have hK : ∀ b u, argH K s₁.heap A b = some u → K.lookup b = none := fun b u q => (argH_is ar q).1
  have noA : ∀ {b : Addr} {o : Obj} {es : Array DictEntry} {ep : Nat}, s₁.heap.get? b = some o → o.data = .dict es ep → argH K s₁.heap A b = none := fun {b o es ep} e d => by
    cases q : argH K s₁.heap A b with
    | none => rfl
    | some u =>
      obtain ⟨_, vs, _, _, ⟨e2, _⟩ | ⟨e2, _⟩⟩ := argH_is ar q
      · rw [e2] at e
        cases e
        have d' : Data.seq vs.toArray _ = Data.dict es ep := d
        cases d'
      · rw [e2] at e
        cases e
        have d' : Data.seq vs.toArray _ = Data.dict es ep := d
        cases d'
  generalize argH K s₁.heap A = H at hO hok hS hK noA
  have base_of : ∀ {b : Addr} {o : Obj}, s₁.heap.get? b = some o → H b = none → (hidT s₁.heap H).get? b = some o := fun e n => hidT_get e n
  have nsK : ∀ {b : Addr} {m : Str → Option Value}, s₁.heap.Ns b m → (hidT s₁.heap H).Ns b m := fun {b m} ⟨o, es, ep, e, d, r⟩ => ⟨o, es, ep, base_of e (noA e d), d, r⟩
  have nK : ∀ b o, K.lookup b = some o → H b = none := fun b o e => by
    cases q : H b with
    | none => rfl
    | some u =>
      rw [hK b u q] at e
      cases e
  have hKb : K.In (hidT s₁.heap H) := fun b o e => base_of (KX b o e) (nK b o e)
  have hM : Mod K mg (hidT s₁.heap H) := ⟨hKb, nsK hns, ⟨mb, nsK hb, hbb⟩, let ⟨mc, h1, h2⟩ := hlim; ⟨mc, nsK h1, h2⟩⟩
  have e0 : Env0 P w K mg (hidT s₁.heap H) callerA [] s₁ H := ⟨rfl, hM, fun b o e => of_hidT e, Nat.le_of_eq (hidT_size _ _), trivial, fun b hb => absurd (show b ∈ ([] : List Addr) from hb) (by simp), hok, .of_eq hg⟩
  have hl : vals.length = ps.length := by rw [wellAll_len hwl]; exact hlen
  refine codeAny_mono ((F _ hKb (nsK hns)).run callerA [] s₁ H ⟨vals, []⟩ vals (vals.map toV) _ _ hr e0 (hbind s₁ vals hl) hV (hsp H _ hO hS)) fun r s' x => ?_
  cases r with
  | error e => exact (hCX H e s' x).elim
  | ok fl =>
    cases fl with
    | next => exact False.elim x
    | brk => exact False.elim x
    | cont => exact False.elim x
    | ret u =>
      obtain ⟨v, H', os, bare, un, hok', r', q⟩ := x
      have kept : ∀ b o, s₁.heap.get? b = some o → s'.heap.get? b = some o := fun b o e => by
        cases q2 : H b with
        | none => exact un.keep b o e q2 (by intro z; exact absurd (show b ∈ ([] : List Addr) from z) (by simp)) (by simp)
        | some u2 =>
          rcases hO b with z | ⟨ob, u3, z⟩
          · rw [q2] at z
            cases z
          · have z2 := un.frzs b ob _ z
            obtain ⟨e1, _⟩ := hok b _ z
            obtain ⟨e2, _⟩ := hok' b _ z2
            rw [e] at e1
            cases e1
            exact e2
      have KX' : K.In s'.heap := fun b o e => kept b o (KX b o e)
      obtain ⟨as, hrd⟩ := Dw.reads (R := R) (cl := cl) hok' KX' d0 v u q r'
      exact ⟨u, as, rfl, hrd, OldK.of_keep kept, os, bare⟩
/-! ### the row -/
theorem layable_weight {ds : List WData} (h : WData.layableAll ds = true) : ∀ d ∈ ds, d.weight ≤ 1048576 := fun d hd =>
  (PySem.W.layableW_iff.mp (List.all_eq_true.mp h d hd)).2.2
theorem encAll_len : ∀ (cs : List Codec) (a : Codec.denoteAll cs), (Codec.encAll cs a).length = cs.length
  | [], _ => rfl
  | c :: cs, a => by
    show (Codec.encAll cs a.2).length + 1 = cs.length + 1
    rw [encAll_len cs a.2]
/-- the goal that k_headS leaves (case hc), from the promise of the row's def: whatever the arguments that the codecs let and the row asks for, the def gives what stands for enc (f ..) -/
theorem walk_spec {r : OpenSpec} {k : Nat} {q : Program} {loose : List Str} {XP : (Str → Option Value) → Heap → Prop} {YP : World → Heap → Prop} {d : DefRec} {K : Params → PySem.W.Frag} {CX : World → CXT} {ps : List Str} {sp : World → Sp}
    (hwell : r.wellSaid = true) (hdf : d.params.defaults = []) (hlen : r.args.length = ps.length) (hr : Room k callerA)
    (hY : ∀ (w : World) (h : Heap), YP w h → (K w.params).In h)
    (F : ∀ (w : World) (mg : Str → Option Value) (fa : Addr) (h : Heap), YP w h → (K w.params).In h → h.Ns mainGlobals mg → mg d.name = some (.ref fa) →
      ∃ fd : FuncData, (∀ (s : Shared) (us : List Value), us.length = ps.length → BindsTo s fd ⟨us, []⟩ (ps.zip us)) ∧
        ∀ base : Heap, (K w.params).In base → base.Ns mainGlobals mg → FnOk r.prog w (K w.params) mg base (CX w) k fa fd ps (sp w))
    (hsp : ∀ (w : World) (H : Hp) (xs : List V) (a : Codec.denoteAll r.args), OnlyF H → Codec.withinAll r.args a = true → Codec.app r.args r.asked a = true → DwAll (K w.params) H xs (Codec.encAll r.args a) →
      sp w xs H (fun v H' => Dw (K w.params) H' v (r.ret.enc (Codec.app r.args r.f a))) fun _ _ _ => False)
    (hCX : ∀ (w : World) (H : Hp) (s : Shared) (e : Value) (s' : Shared), CX w [] H s (fun _ _ _ => False) e s' → False) :
    PySem.W.WalkOS q loose XP YP r d [] (fun f vs => PySem.call f vs) := by
  intro w s_0 s₁ mg mb G Y fa o pm cd doc dV kV ho hd hcd hD hmg hg args vals as hpre hlay hrd hwl hlo
  obtain ⟨a, e1, e2⟩ := PySem.W.os_pre_some hpre
  obtain ⟨e3, hwi⟩ := Codec.encAll_of_decAll r.args args a e1
  subst e3
  have KX := hY w _ Y
  obtain ⟨fd, hb, hF⟩ := F w mg fa _ Y KX G.T.g hmg
  refine PySem.W.enter_call (codeAny_mono (spec_call (R := []) (cl := classAt s_0.heap) (d0 := r.ret.enc (Codec.app r.args r.f a)) KX G.T.g G.T.b G.T.builtins G.T.nolimit hg hwl (pl_encAll _ _) (layable_weight hlay) hr hF hb (by rw [encAll_len]; exact hlen)
    (fun H xs hO hS => hsp w H xs a hO hwi e2 hS) fun H e s' => hCX w H s₁ e s') fun r' s' hq => ?_)
  obtain ⟨u, as', rfl, h1, h2, h3, h4⟩ := hq
  exact ⟨.inl ⟨u, _, as', rfl, fun _ => rfl, h1, (OpenSpec.post_iff hwell hwi _ _).mpr rfl, fun z => Bool.noConfusion (show false = true from z)⟩, h2, h3, h4⟩
/-- the same where the promise hangs on the written part alone -/
theorem walk_specK {r : OpenSpec} {k : Nat} {q : Program} {loose : List Str} {XP : (Str → Option Value) → Heap → Prop} {YP : World → Heap → Prop} {d : DefRec} {K : Params → PySem.W.Frag} {CX : CXT} {ps : List Str} {sp : PySem.W.Frag → Sp}
    (hwell : r.wellSaid = true) (hdf : d.params.defaults = []) (hlen : r.args.length = ps.length) (hr : Room k callerA)
    (hY : ∀ (w : World) (h : Heap), YP w h → (K w.params).In h)
    (F : ∀ (w : World) (mg : Str → Option Value) (fa : Addr) (h : Heap), YP w h → (K w.params).In h → h.Ns mainGlobals mg → mg d.name = some (.ref fa) →
      ∃ fd : FuncData, (∀ (s : Shared) (us : List Value), us.length = ps.length → BindsTo s fd ⟨us, []⟩ (ps.zip us)) ∧
        ∀ base : Heap, (K w.params).In base → base.Ns mainGlobals mg → FnOk r.prog w (K w.params) mg base CX k fa fd ps (sp (K w.params)))
    (hsp : ∀ (K : PySem.W.Frag) (H : Hp) (xs : List V) (a : Codec.denoteAll r.args), OnlyF H → Codec.withinAll r.args a = true → Codec.app r.args r.asked a = true → DwAll K H xs (Codec.encAll r.args a) →
      sp K xs H (fun v H' => Dw K H' v (r.ret.enc (Codec.app r.args r.f a))) fun _ _ _ => False)
    (hCX : ∀ (H : Hp) (s : Shared) (e : Value) (s' : Shared), CX [] H s (fun _ _ _ => False) e s' → False) :
    PySem.W.WalkOS q loose XP YP r d [] (fun f vs => PySem.call f vs) :=
  walk_spec (K := K) (CX := fun _ => CX) (sp := fun w => sp (K w.params)) hwell hdf hlen hr hY F (fun w H xs a h1 h2 h3 h4 => hsp (K w.params) H xs a h1 h2 h3 h4) fun _ H s e s' => hCX H s e s'
end L2

namespace PySem
open Sem (wp)
section
variable {prog : Program} {w : World} {A : Around} {E : Value → Shared → Prop} {s : Shared}

/-- the next item of a tuple's iterator, as zip asks for it -/
theorem zt_next {it t : Addr} {i : Nat} {items : Array Value} {x : Value} {Q : Value → Shared → Prop} (hit : s.heap.IsTupleIter it t i) (ht : s.heap.IsTuple t items) (hx : items[i]? = some x)
    (hQ : ∀ h', h'.IsTupleIter it t (i + 1) → Heap.SameBut it s.heap h' → Q x { s with heap := h' }) : wpAny (model prog w) A (Builtin.SmallTypes.nextOf (.ref it)) Q E s := by
  have hT := hit.typeIs
  obtain ⟨o, ho, hc, hd⟩ := hit
  obtain ⟨ot, hot, _, nt, hdt⟩ := ht
  unfold Builtin.SmallTypes.nextOf
  refine wpAny_bind (wpAny_callSpecial?_slot (name := Str.ofString "__next__") hT F.slot_tuple_iterator_next (wpAny_call_entry F.slot_tuple_iterator_next hT F.entry_tuple_iterator_next ?_ (F.args_tuple_iterator_next_1 _)))
  show wpAny _ _ (field (.ref it) 0 >>= _) _ _ s
  refine wpAny_bind (wpAny_field ho hd (x := .ref t) rfl ?_)
  show wpAny _ _ (if (Value.ref t == Value.none) = true then _ else (field (.ref it) 1 >>= _)) _ _ s
  rw [if_neg (show ¬ ((Value.ref t == Value.none) = true) from Bool.false_ne_true)]
  refine wpAny_bind (wpAny_field ho hd (x := .int i 0) rfl ?_)
  show wpAny _ _ (seqItems? (.ref t) >>= _) _ _ s
  refine wpAny_bind (wpAny_seqItems hot hdt ?_)
  simp only [Int.toNat_natCast, hx]
  refine wpAny_bind (wpAny_setField ho hd (by simp) (wpAny_pure ⟨x, rfl, wpAny_pure (hQ _ ⟨_, Heap.get?_update_self _ ho (Obj.isFreed_of_fields (Obj.data_mapFields hd _)), (Obj.cls_mapFields ..).trans hc, ?_⟩ (Heap.SameBut.update ..))⟩))
  rw [Obj.data_mapFields hd]
  simp [rawInt]
/-- a tuple's iterator at its end -/
theorem zt_stop {it t : Addr} {i : Nat} {items : Array Value} {Q : Value → Shared → Prop} (hh : A.handled = none) (hit : s.heap.IsTupleIter it t i) (ht : s.heap.IsTuple t items) (hx : items[i]? = none)
    (hE : ∀ h' e, Heap.ExtBut it s.heap h' → (∃ o, h'.get? e = some o ∧ o.cls = .type "StopIteration") → E (.ref e) { s with heap := h' }) : wpAny (model prog w) A (Builtin.SmallTypes.nextOf (.ref it)) Q E s := by
  have hT := hit.typeIs
  obtain ⟨o, ho, hc, hd⟩ := hit
  obtain ⟨ot, hot, _, nt, hdt⟩ := ht
  unfold Builtin.SmallTypes.nextOf
  refine wpAny_bind (wpAny_callSpecial?_slot (name := Str.ofString "__next__") hT F.slot_tuple_iterator_next (wpAny_call_entry F.slot_tuple_iterator_next hT F.entry_tuple_iterator_next ?_ (F.args_tuple_iterator_next_1 _)))
  show wpAny _ _ (field (.ref it) 0 >>= _) _ _ s
  refine wpAny_bind (wpAny_field ho hd (x := .ref t) rfl ?_)
  show wpAny _ _ (if (Value.ref t == Value.none) = true then _ else (field (.ref it) 1 >>= _)) _ _ s
  rw [if_neg (show ¬ ((Value.ref t == Value.none) = true) from Bool.false_ne_true)]
  refine wpAny_bind (wpAny_field ho hd (x := .int i 0) rfl ?_)
  show wpAny _ _ (seqItems? (.ref t) >>= _) _ _ s
  refine wpAny_bind (wpAny_seqItems hot hdt ?_)
  simp only [Int.toNat_natCast, hx]
  refine wpAny_bind (wpAny_rule (wpAny_bind (wpAny_setField ho hd (by simp) ?_)))
  show wpAny _ _ (newExc (.type "StopIteration") [] >>= _) _ _ _
  refine wpAny_bind ?_
  simp only [newExc, newTuple]
  refine wpAny_bind (wpAny_newObj_type ?_ (by size_fits))
  refine wpAny_bind (m := firstArgMember _ _) (wpAny_of_eq (a := Value.none) (by first | rfl | (simp only [firstArgMember]; rfl)) (wpAny_newObj_type ?_ (by size_fits)))
  simp only [raiseNew]
  refine wpAny_bind (wpAny_handled ?_)
  rw [show A.in1.handled = none from hh]
  exact wpAny_bind (wpAny_pure (wpAny_throw (hE _ _ (((Heap.SameBut.update ..).extBut.push _).push _) ⟨_, Heap.get?_push_size _ rfl, rfl⟩)))

/-- one turn of zip over two tuples -/
theorem zt_item {z TI TO i1 i2 t1 t2 : Addr} {k : Nat} {xs ys : Array Value} {x y a b : Value} {Q : Option Value → Shared → Prop} (D : ZipApart z TI TO i1 i2 t1 t2)
    (hz : IsZip s.heap z TI TO .none) (hTI : IsPair s.heap TI (.ref i1) (.ref i2)) (hTO : IsPair s.heap TO a b) (h1 : s.heap.IsTupleIter i1 t1 k) (h2 : s.heap.IsTupleIter i2 t2 k)
    (hl1 : s.heap.IsTuple t1 xs) (hl2 : s.heap.IsTuple t2 ys) (hx : xs[k]? = some x) (hy : ys[k]? = some y)
    (hQ : ∀ h', IsZip h' z TI TO (rawInt s.heap.objs.size) → IsPair h' TO x y → h'.IsTupleIter i1 t1 (k + 1) → h'.IsTupleIter i2 t2 (k + 1) → IsPair h' s.heap.objs.size x y → h'.objs.size = s.heap.objs.size + 1 →
      (∀ c o, c ≠ z → c ≠ TO → c ≠ i1 → c ≠ i2 → s.heap.get? c = some o → h'.get? c = some o) → Q (some (.ref s.heap.objs.size)) { s with heap := h' }) : wpAny (model prog w) A (pyNext (.ref z)) Q E s := by
  have hT : s.TypeIs (.ref z) "zip" := ⟨_, hz, rfl⟩
  unfold pyNext
  refine wpAny_bind (wpAny_attempt (wpAny_callSpecial?_slot (name := Str.ofString "__next__") hT F.slot_zip_next (wpAny_call_entry F.slot_zip_next hT F.entry_zip_next ?_ (F.args_zip_next_1 _))))
  show wpAny _ _ (field (.ref z) 2 >>= _) _ _ _
  refine wpAny_bind (wpAny_field hz rfl (x := .bool false) rfl ?_)
  show wpAny _ _ (field (.ref z) 3 >>= _) _ _ _
  refine wpAny_bind (wpAny_field hz rfl (x := .ref TI) rfl (wpAny_bind (wpAny_seqItems hTI rfl ?_)))
  show wpAny _ _ (Builtin.SmallTypes.ownedTupleIsFree (.ref z) >>= _) _ _ _
  refine wpAny_bind ?_
  unfold Builtin.SmallTypes.ownedTupleIsFree
  refine wpAny_bind (wpAny_field hz rfl (x := .none) rfl (wpAny_pure ?_))
  simp only [if_true]
  refine wpAny_bind (wpAny_rule (wpAny_bind (wpAny_field hz rfl (x := .ref TO) rfl (wpAny_bind (wpAny_setField_rec hz (by simp) fun g1 z1 b1 => ?_)))))
  replace z1 : IsZip g1 z TI TO .ellipsis := z1
  refine wpAny_bind ?_
  simp only [List.zipIdx_cons, List.zipIdx_nil, List.forIn_cons, List.forIn_nil]
  -- the first tuple's item
  refine wpAny_bind (wpAny_bind (wpAny_onRaise ?_))
  show wpAny _ _ (Builtin.SmallTypes.nextOf (.ref i1) >>= _) _ _ _
  refine wpAny_bind (zt_next (h1.extBut b1.extBut D.i1z) (hl1.extBut b1.extBut D.l1z) hx fun g2 i1' b2 => wpAny_pure ?_)
  have p2 : IsPair g2 TO a b := b2.extBut _ _ D.TOi1 (b1.extBut _ _ D.TOz hTO)
  refine wpAny_bind (wpAny_seqItems p2 rfl (wpAny_bind (wpAny_updateSeq_pair p2 fun g3 p3 b3 => wpAny_bind (wpAny_letGo (wpAny_pure ?_)))))
  replace p3 : IsPair g3 TO x b := p3
  -- the second's
  refine wpAny_bind (wpAny_bind (wpAny_onRaise ?_))
  show wpAny _ _ (Builtin.SmallTypes.nextOf (.ref i2) >>= _) _ _ _
  have j2 := ((h2.extBut b1.extBut D.i2z).extBut b2.extBut D.i12.symm).extBut b3.extBut D.TOi2.symm
  have m2 := ((hl2.extBut b1.extBut D.l2z).extBut b2.extBut D.l2i1).extBut b3.extBut D.l2TO
  refine wpAny_bind (zt_next j2 m2 hy fun g4 i2' b4 => wpAny_pure ?_)
  have p4 : IsPair g4 TO x b := b4.extBut _ _ D.TOi2 p3
  refine wpAny_bind (wpAny_seqItems p4 rfl (wpAny_bind (wpAny_updateSeq_pair p4 fun g5 p5 b5 => wpAny_bind (wpAny_letGo (wpAny_pure (wpAny_pure ?_))))))
  replace p5 : IsPair g5 TO x y := p5
  -- the pair
  refine wpAny_bind (wpAny_seqItems p5 rfl (wpAny_bind (wpAny_newTuple ?_)))
  have sz : g5.objs.size = s.heap.objs.size := by rw [b5.1, b4.1, b3.1, b2.1, b1.1]
  have z5 : IsZip g5 z TI TO .ellipsis := b5.extBut _ _ D.TOz.symm (b4.extBut _ _ D.i2z.symm (b3.extBut _ _ D.TOz.symm (b2.extBut _ _ D.i1z.symm z1)))
  have k5 : ∀ c o, c ≠ z → c ≠ TO → c ≠ i1 → c ≠ i2 → s.heap.get? c = some o → g5.get? c = some o := fun c o c1 c2 c3 c4 e =>
    b5.extBut _ _ c2 (b4.extBut _ _ c4 (b3.extBut _ _ c2 (b2.extBut _ _ c3 (b1.extBut _ _ c1 e))))
  have a1 : g5.IsTupleIter i1 t1 (k + 1) := ((i1'.extBut b3.extBut D.TOi1.symm).extBut b4.extBut D.i12).extBut b5.extBut D.TOi1.symm
  have a2 : g5.IsTupleIter i2 t2 (k + 1) := i2'.extBut b5.extBut D.TOi2.symm
  have zl : z < g5.objs.size := Heap.lt_size z5
  show wpAny _ _ (Builtin.SmallTypes.ownedTupleHandOut (.ref z) (.ref g5.objs.size) >>= _) _ _ _
  refine wpAny_bind ?_
  unfold Builtin.SmallTypes.ownedTupleHandOut
  have z6 : IsZip (g5.push { cls := .type "tuple", data := .seq #[x, y] }) z TI TO .ellipsis := Heap.get?_push_of_some _ z5
  refine wpAny_bind (wpAny_setField_rec z6 (by simp) fun g7 z7 b7 => ?_)
  replace z7 : IsZip g7 z TI TO (rawInt g5.objs.size) := z7
  refine wpAny_setField_rec z7 (by simp) fun g8 z8 b8 => ?_
  replace z8 : IsZip g8 z TI TO (rawInt g5.objs.size) := z8
  have up : ∀ c o, c ≠ z → g5.get? c = some o → g8.get? c = some o := fun c o c1 e => b8.extBut _ _ c1 (b7.extBut _ _ c1 (Heap.get?_push_of_some _ e))
  have T8 : IsPair g8 g5.objs.size x y := b8.extBut _ _ (Nat.ne_of_gt zl) (b7.extBut _ _ (Nat.ne_of_gt zl) (Heap.get?_push_size _ rfl))
  have s8 : g8.objs.size = g5.objs.size + 1 := by rw [b8.1, b7.1, Heap.size_push]
  rw [sz] at z8 T8 s8
  refine wpAny_pure ⟨_, rfl, wpAny_pure ?_⟩
  show Q (some (.ref g5.objs.size)) _
  rw [sz]
  exact hQ g8 z8 (up _ _ D.TOz p5) (a1.at fun o e => up _ o D.i1z e) (a2.at fun o e => up _ o D.i2z e) T8 s8 fun c o c1 c2 c3 c4 e => up c o c1 (k5 c o c1 c2 c3 c4 e)

/-- zip over two tuples at the end of both -/
theorem zt_end {z TI TO i1 i2 t1 t2 : Addr} {k : Nat} {xs : Array Value} {a b : Value} {Q : Option Value → Shared → Prop} (hh : A.handled = none) (D : ZipApart z TI TO i1 i2 t1 t2)
    (hz : IsZip s.heap z TI TO .none) (hTI : IsPair s.heap TI (.ref i1) (.ref i2)) (_hTO : IsPair s.heap TO a b) (h1 : s.heap.IsTupleIter i1 t1 k)
    (hl1 : s.heap.IsTuple t1 xs) (hx : xs[k]? = none)
    (hQ : ∀ h', (∀ c o, c ≠ z → c ≠ TO → c ≠ i1 → c ≠ i2 → s.heap.get? c = some o → h'.get? c = some o) → Q none { s with heap := h' }) : wpAny (model prog w) A (pyNext (.ref z)) Q E s := by
  have hT : s.TypeIs (.ref z) "zip" := ⟨_, hz, rfl⟩
  unfold pyNext
  refine wpAny_bind (wpAny_attempt (wpAny_callSpecial?_slot (name := Str.ofString "__next__") hT F.slot_zip_next (wpAny_call_entry F.slot_zip_next hT F.entry_zip_next ?_ (F.args_zip_next_1 _))))
  show wpAny _ _ (field (.ref z) 2 >>= _) _ _ _
  refine wpAny_bind (wpAny_field hz rfl (x := .bool false) rfl ?_)
  show wpAny _ _ (field (.ref z) 3 >>= _) _ _ _
  refine wpAny_bind (wpAny_field hz rfl (x := .ref TI) rfl (wpAny_bind (wpAny_seqItems hTI rfl ?_)))
  show wpAny _ _ (Builtin.SmallTypes.ownedTupleIsFree (.ref z) >>= _) _ _ _
  refine wpAny_bind ?_
  unfold Builtin.SmallTypes.ownedTupleIsFree
  refine wpAny_bind (wpAny_field hz rfl (x := .none) rfl (wpAny_pure ?_))
  simp only [if_true]
  refine wpAny_bind (wpAny_rule (wpAny_bind (wpAny_field hz rfl (x := .ref TO) rfl (wpAny_bind (wpAny_setField_rec hz (by simp) fun g1 z1 b1 => ?_)))))
  replace z1 : IsZip g1 z TI TO .ellipsis := z1
  refine wpAny_bind ?_
  simp only [List.zipIdx_cons, List.zipIdx_nil, List.forIn_cons, List.forIn_nil]
  refine wpAny_bind (wpAny_bind (wpAny_onRaise ?_))
  show wpAny _ _ (Builtin.SmallTypes.nextOf (.ref i1) >>= _) _ _ _
  refine wpAny_bind (zt_stop hh (h1.extBut b1.extBut D.i1z) (hl1.extBut b1.extBut D.l1z) hx fun g2 e b2 he => ?_)
  obtain ⟨oe, hoe, hce⟩ := he
  have z2 : IsZip g2 z TI TO .ellipsis := b2 _ _ D.i1z.symm z1
  have ez : e ≠ z := fun q => by subst q; rw [z2] at hoe; cases hoe; simp at hce
  refine wpAny_setField_rec z2 (by simp) fun g3 _ b3 => ?_
  refine wpAny_bind (wpAny_isInstance (T := "StopIteration") (b := true) ⟨oe, b3.extBut _ _ ez hoe, hce⟩ isSubtype_stop ?_)
  exact wpAny_pure (hQ _ fun c o c1 _ c3 _ q => b3.extBut _ _ c1 (b2 _ _ c3 (b1.extBut _ _ c1 q)))

abbrev ztH1 (h : Heap) (t1 : Addr) : Heap := h.push { cls := .type "tuple_iterator", data := .fields #[.ref t1, .int 0 0] }
abbrev ztH2 (h : Heap) (t1 t2 : Addr) : Heap := (ztH1 h t1).push { cls := .type "tuple_iterator", data := .fields #[.ref t2, .int 0 0] }
abbrev ztH3 (h : Heap) (t1 t2 : Addr) : Heap := (ztH2 h t1 t2).push { cls := .type "tuple", data := .seq #[.ref h.objs.size, .ref (ztH1 h t1).objs.size] }
abbrev ztH4 (h : Heap) (t1 t2 : Addr) : Heap := (ztH3 h t1 t2).push { cls := .type "tuple", data := .seq #[.none, .none] }
abbrev ztH5 (h : Heap) (t1 t2 : Addr) : Heap := (ztH4 h t1 t2).push { cls := .type "zip", data := .fields #[.none, .bool false, .bool false, .ref (ztH2 h t1 t2).objs.size, .ref (ztH3 h t1 t2).objs.size] }
theorem zt_meets (t1 t2 : Addr) (xs ys : Array Value) :
    Meets (Builtin.«zip.__new__» ⟨[.type "zip", .ref t1, .ref t2], []⟩) (fun _ R s => s.heap.IsTuple t1 xs ∧ s.heap.IsTuple t2 ys ∧ R (.ok (.ret (.ref (ztH4 s.heap t1 t2).objs.size))) { s with heap := ztH5 s.heap t1 t2 }) :=
  .of_wp fun prog w A R s h => by
    obtain ⟨hp, g, d, tk, os⟩ := s
    obtain ⟨q1, q2, h⟩ := h
    have hsub := sub_zip
    have r1 : Heap.IsTuple (Shared.heap ⟨hp, g, d, tk, os⟩) t1 xs := q1
    have r2 : Heap.IsTuple (Shared.heap ⟨hp.push { cls := .type "tuple_iterator", data := .fields #[.ref t1, .int 0 0] }, g, d, tk, os⟩) t2 ys := Heap.IsTuple.push q2 _
    wp_walk using wpAny_pyIter_tuple r1, wpAny_pyIter_tuple r2
    exact ⟨_, rfl, h⟩
theorem zt_call {t1 t2 : Addr} {xs ys : Array Value} {Q : Value → Shared → Prop} (hl1 : s.heap.IsTuple t1 xs) (hl2 : s.heap.IsTuple t2 ys)
    (h : ∀ h', IsZip h' (s.heap.objs.size + 4) (s.heap.objs.size + 2) (s.heap.objs.size + 3) .none → IsPair h' (s.heap.objs.size + 2) (.ref s.heap.objs.size) (.ref (s.heap.objs.size + 1)) →
      IsPair h' (s.heap.objs.size + 3) .none .none → h'.IsTupleIter s.heap.objs.size t1 0 → h'.IsTupleIter (s.heap.objs.size + 1) t2 0 →
      (∀ c o, s.heap.get? c = some o → h'.get? c = some o) → Q (.ref (s.heap.objs.size + 4)) { s with heap := h' }) : wpAny (model prog w) A (call (.type "zip") [.ref t1, .ref t2]) Q E s := by
  refine callType_new F.called_zip (by decide) (F.typeCall_zip_2 _ _) (F.newCall_zip_2 _ _) (fun obj => F.args_object_init_3 obj _ _) F.entry_zip_new (zt_meets t1 t2 xs ys) ⟨hl1, hl2, ?_⟩
  have n1 : (ztH1 s.heap t1).objs.size = s.heap.objs.size + 1 := Heap.size_push ..
  have n2 : (ztH2 s.heap t1 t2).objs.size = s.heap.objs.size + 2 := by rw [Heap.size_push, n1]
  have n3 : (ztH3 s.heap t1 t2).objs.size = s.heap.objs.size + 3 := by rw [Heap.size_push, n2]
  have n4 : (ztH4 s.heap t1 t2).objs.size = s.heap.objs.size + 4 := by rw [Heap.size_push, n3]
  have e5 : (ztH5 s.heap t1 t2).get? (ztH4 s.heap t1 t2).objs.size = some _ := Heap.get?_push_size _ rfl
  have e4 : (ztH5 s.heap t1 t2).get? (ztH3 s.heap t1 t2).objs.size = some _ := Heap.get?_push_of_some _ (Heap.get?_push_size _ rfl)
  have e3 : (ztH5 s.heap t1 t2).get? (ztH2 s.heap t1 t2).objs.size = some _ := Heap.get?_push_of_some _ (Heap.get?_push_of_some _ (Heap.get?_push_size _ rfl))
  have e2 : (ztH5 s.heap t1 t2).get? (ztH1 s.heap t1).objs.size = some _ := Heap.get?_push_of_some _ (Heap.get?_push_of_some _ (Heap.get?_push_of_some _ (Heap.get?_push_size _ rfl)))
  have e1 : (ztH5 s.heap t1 t2).get? s.heap.objs.size = some _ := Heap.get?_push_of_some _ (Heap.get?_push_of_some _ (Heap.get?_push_of_some _ (Heap.get?_push_of_some _ (Heap.get?_push_size _ rfl))))
  show _ ∧ _
  rw [n2, n3, n4] at e5
  rw [n1, n2] at e3
  rw [n3] at e4
  rw [n1] at e2
  rw [n4]
  exact ⟨⟨_, e5, rfl⟩, h _ e5 e3 e4 ⟨_, e1, rfl, rfl⟩ ⟨_, e2, rfl, rfl⟩ fun c o q => Heap.get?_push_of_some _ (Heap.get?_push_of_some _ (Heap.get?_push_of_some _ (Heap.get?_push_of_some _ (Heap.get?_push_of_some _ q))))⟩
end
end PySem

set_option Elab.async false
set_option linter.all false
set_option maxRecDepth 100000
namespace L2
open PySem PySem.Spec PyProof.Rows
/-! ### min of three -/
theorem call_min3 {X : Cx} (hc : X.calm = true) : CallR X (.builtin "min") (fun xs H Q => ∃ i j k, xs = [.int i, .int j, .int k] ∧ Q (.int (min (min i j) k)) H) := by
  intro pins s σ H xs us Q I r h
  obtain ⟨i, j, k, rfl, q⟩ := h
  cases r with
  | cons r1 r =>
    cases r with
    | cons r2 r =>
      cases r with
      | cons r3 r =>
        cases r
        obtain ⟨t1, rfl⟩ := r1
        obtain ⟨t2, rfl⟩ := r2
        obtain ⟨t3, rfl⟩ := r3
        refine min_three_ints (I.ok.hd hc) fun h' tk kp => ⟨_, H, I.kept kp, ?_, q⟩
        by_cases h1 : j < i
        · rw [if_pos h1]
          by_cases h2 : k < j
          · rw [if_pos h2, show min (min i j) k = k by omega]; exact ⟨_, rfl⟩
          · rw [if_neg h2, show min (min i j) k = j by omega]; exact ⟨_, rfl⟩
        · rw [if_neg h1]
          by_cases h2 : k < i
          · rw [if_pos h2, show min (min i j) k = k by omega]; exact ⟨_, rfl⟩
          · rw [if_neg h2, show min (min i j) k = i by omega]; exact ⟨_, rfl⟩
theorem call_min2' {X : Cx} (hc : X.calm = true) : CallR X (.builtin "min") (fun xs H Q => ∃ i j, xs = [.int i, .int j] ∧ Q (.int (min i j)) H) := by
  intro pins s σ H xs us Q I r h
  obtain ⟨i, j, e, q⟩ := h
  refine call_min2 hc pins s σ H xs us Q I r ⟨i, j, e, ?_⟩
  have z : (if j < i then j else i) = min i j := by
    by_cases h1 : j < i
    · rw [if_pos h1]; omega
    · rw [if_neg h1]; omega
  rw [z]
  exact q
/-! ### zip of two tuples as long as one another -/
def Itzt (K : PySem.W.Frag) (a b : Addr) : It :=
  ⟨fun i H => ∃ (xs ys : List V) (x y : V), SqT K H a xs ∧ SqT K H b ys ∧ xs[i]? = some x ∧ ys[i]? = some y,
    fun i H v H' => ∃ T x y, v = .ref T ∧ H T = none ∧ H' = upd H T (.tup [x, y]) ∧ (∀ xs, SqT K H a xs → xs[i]? = some x) ∧ ∀ ys, SqT K H b ys → ys[i]? = some y,
    fun i H => ∃ xs : List V, SqT K H a xs ∧ xs.length ≤ i⟩
theorem turn_zipT {P : Program} {w : World} {K : PySem.W.Frag} {elts : List Expr} {kk : Nat} {tpos : Pos} {a b z TI TO i1 i2 : Addr} (D : ZipApart z TI TO i1 i2 a b) :
    Turn P w K (.Tuple elts kk tpos) (Itzt K a b) [z, TI, TO, i1, i2] z (fun i h => IsZip h z TI TO .none ∧ IsPair h TI (.ref i1) (.ref i2) ∧ (∃ x y, IsPair h TO x y) ∧ h.IsTupleIter i1 a i ∧ h.IsTupleIter i2 b i) where
  mem := by simp
  obj := fun i h st c hc => by
    obtain ⟨hz, hTI, ⟨x, y, hTO⟩, ⟨o1, e1, _, d1⟩, ⟨o2, e2, _, d2⟩⟩ := st
    have e' : c = z ∨ c = TI ∨ c = TO ∨ c = i1 ∨ c = i2 := by simpa using hc
    rcases e' with q | q | q | q | q
    · rw [q]; exact ⟨_, hz, fun v q => nomatch q⟩
    · rw [q]; exact ⟨_, hTI, fun v q => nomatch q⟩
    · rw [q]; exact ⟨_, hTO, fun v q => nomatch q⟩
    · rw [q]; exact ⟨o1, e1, fun v q => by rw [d1] at q; cases q⟩
    · rw [q]; exact ⟨o2, e2, fun v q => by rw [d2] at q; cases q⟩
  keep := fun i h h' st k => by
    obtain ⟨hz, hTI, ⟨x, y, hTO⟩, h1, h2⟩ := st
    exact ⟨k z (by simp) _ hz, k TI (by simp) _ hTI, ⟨x, y, k TO (by simp) _ hTO⟩, h1.at fun o q => k i1 (by simp) o q, h2.at fun o q => k i2 (by simp) o q⟩
  item := by
    intro X hP hw hK hc i pins s σ H E I hf st hg
    subst hP hw hK
    obtain ⟨hz, hTI, ⟨x0, y0, hTO⟩, h1, h2⟩ := st
    obtain ⟨xs, ys, x, y, hqx, hqy, hx, hy⟩ := hg
    obtain ⟨its, rv, p, _⟩ := I.tuple hqx
    obtain ⟨its2, rv2, p2, _⟩ := I.tuple hqy
    obtain ⟨u, hu, ru⟩ := rv.get hx
    obtain ⟨u2, hu2, ru2⟩ := rv2.get hy
    have hzl : z < s.heap.objs.size := Heap.lt_size hz
    refine zt_item D hz hTI hTO h1 h2 p p2 (x := u) (y := u2) (by simpa using hu) (by simpa using hu2) fun h' z' TO' h1' h2' hT hsz hk => ?_
    refine ⟨_, rfl, wpAny_letOwnedTupleGo_zip (s := { s with heap := h' }) z' fun h'' z'' sb => ?_⟩
    have hT2 : h''.get? s.heap.objs.size = some { cls := .type "tuple", data := .seq #[u, u2] } := (sb.2 _ (Nat.ne_of_gt hzl)).trans hT
    have new : ObjOk X.prog X.w (upd H s.heap.objs.size (.tup [x, y])) h'' s.heap.objs.size (.tup [x, y]) :=
      ⟨by show 2 ≤ sizeLine; decide, [u, u2], .cons ru (.cons ru2 .nil), ⟨_, hT2, rfl, _, rfl⟩⟩
    have I1 : Inv X pins σ (upd H s.heap.objs.size (.tup [x, y])) { s with heap := h'' } :=
      I.turnedNew (t' := s.toks) (ch := [z, TI, TO, i1, i2]) (fun c o hb q => (sb.2 c (fun q' => hb (by simp [q']))).trans (hk c o (fun q' => hb (by simp [q'])) (fun q' => hb (by simp [q'])) (fun q' => hb (by simp [q'])) (fun q' => hb (by simp [q'])) q)) hf (Nat.le_refl _) new
    refine ⟨.ref s.heap.objs.size, _, I1, rfl, ⟨_, x, y, rfl, I.hok.fresh (Nat.le_refl _), rfl, fun l hl => by rw [I.tuple_inj hl hqx]; exact hx, fun l hl => by rw [I.tuple_inj hl hqy]; exact hy⟩, ⟨z'', ?_, ⟨u, u2, ?_⟩, ?_, ?_⟩, fun c hcm => ?_⟩
    · exact (sb.2 _ D.TIz).trans (hk _ _ D.TIz D.TITO D.TIi1 D.TIi2 hTI)
    · exact (sb.2 _ D.TOz).trans TO'
    · exact h1'.at fun o q => (sb.2 _ D.i1z).trans q
    · exact h2'.at fun o q => (sb.2 _ D.i2z).trans q
    · have hlt : c < s.heap.objs.size := by
        have e' : c = z ∨ c = TI ∨ c = TO ∨ c = i1 ∨ c = i2 := by simpa using hcm
        rcases e' with q | q | q | q | q
        · rw [q]; exact hzl
        · rw [q]; exact Heap.lt_size hTI
        · rw [q]; exact Heap.lt_size hTO
        · rw [q]; obtain ⟨_, e1, _⟩ := h1; exact Heap.lt_size e1
        · rw [q]; obtain ⟨_, e2, _⟩ := h2; exact Heap.lt_size e2
      rw [upd_ne (Nat.ne_of_lt hlt)]
      exact (hf c hcm).1
  done := by
    intro X hP hw hK hc i pins s σ H E I hf st hg
    subst hP hw hK
    obtain ⟨hz, hTI, ⟨x0, y0, hTO⟩, h1, h2⟩ := st
    obtain ⟨xs, hqx, hend⟩ := hg
    obtain ⟨its, rv, p, _⟩ := I.tuple hqx
    have l1 := rv.length
    exact zt_end (I.ok.hd hc) D hz hTI hTO h1 p (by simp; omega) fun h' hk => ⟨rfl, I.turnedL (t' := s.toks) (ch := [z, TI, TO, i1, i2]) (fun c o hb q =>
      hk c o (fun q' => hb (by simp [q'])) (fun q' => hb (by simp [q'])) (fun q' => hb (by simp [q'])) (fun q' => hb (by simp [q'])) q) hf⟩
  self := fun A i s Q E st h => wpAny_pyIter_zip st.1 h
def iZipT (K : PySem.W.Frag) (ta : TA) : TI := fun σ H R => ta σ H fun vs H1 => ∃ a b xs ys, vs = [.ref a, .ref b] ∧ SqT K H1 a xs ∧ SqT K H1 b ys ∧ R (Itzt K a b) H1
theorem pi_zipT {X : Cx} {e e2 : Expr} {ta : TA} {p pos tpos : Pos} {elts : List Expr} {kk : Nat} (hg : Gl X "zip") (hm : X.mg "zip" = none) (ha : PA X [e, e2] ta)
    (hs : starEach [e, e2] X.env = (false, eval e X.env) :: starEach [e2] X.env := by rfl) (hpl : (backTo pos (starEach [e2] X.env)).any (·.1) = false := by rfl) :
    PI X (.Tuple elts kk tpos) (.Call (.Name "zip" p) [e, e2] [] pos) (iZipT X.K ta) := by
  intro pins s σ H R I h
  refine Call_ (ld_blt I hg hm boot_zip5 (PyProof.Rows.callWith_type1 (thn (ha pos pins s σ H _ I h) fun us s1 ⟨vs, H1, I1, r1, q1⟩ => ?_) hs hpl))
  obtain ⟨a, b, xs, ys, ex, hqx, hqy, q⟩ := q1
  subst ex
  cases r1 with
  | cons r rr =>
    cases rr with
    | cons r' rr =>
      cases rr
      cases r
      cases r'
      obtain ⟨its, rv, p1, _⟩ := I1.tuple hqx
      obtain ⟨its2, rv2, p2, _⟩ := I1.tuple hqy
      have la : a < s1.heap.objs.size := p1.lt
      have lb : b < s1.heap.objs.size := p2.lt
      refine zt_call p1 p2 fun h' hz hTI hTO h1 h2 hk => wpAny_pyIter_zip hz ?_
      have I2 : Inv X pins σ H1 { s1 with heap := h' } := I1.kept (t' := s1.toks) hk
      refine ⟨s1.heap.objs.size + 4, [s1.heap.objs.size + 4, s1.heap.objs.size + 2, s1.heap.objs.size + 3, s1.heap.objs.size, s1.heap.objs.size + 1], _, _, H1, rfl, I2, turn_zipT (PySem.W.ktu_apart s1.heap.objs.size a b la lb), ⟨hz, hTI, ⟨_, _, hTO⟩, h1, h2⟩, fun c hcm => ?_, q⟩
      have hle : s1.heap.objs.size ≤ c := by
        have e' : c = s1.heap.objs.size + 4 ∨ c = s1.heap.objs.size + 2 ∨ c = s1.heap.objs.size + 3 ∨ c = s1.heap.objs.size ∨ c = s1.heap.objs.size + 1 := by simpa using hcm
        rcases e' with z | z | z | z | z
        · rw [z]; exact Nat.le_add_right _ _
        · rw [z]; exact Nat.le_add_right _ _
        · rw [z]; exact Nat.le_add_right _ _
        · rw [z]; exact Nat.le_refl _
        · rw [z]; exact Nat.le_add_right _ _
      exact I1.fpOk hle (I1.hok.fresh hle)
theorem for_zipT {K : PySem.W.Frag} {a b : Addr} {xs ys : List V} {g : TG} {tb : TS} {D : Ends} {σ : St} {H : Hp} (hxy : xs.length = ys.length) (Pv : Nat → St → Hp → Prop) (h0 : Pv 0 σ H) (hl : ∀ i σ H, i ≤ xs.length → Pv i σ H → SqT K H a xs ∧ SqT K H b ys)
    (hs : ∀ i x y T σ H, xs[i]? = some x → ys[i]? = some y → Pv i σ H → H T = none → g (.ref T) σ (upd H T (.tup [x, y])) fun σ2 H2 => tb { D with nx := Pv (i + 1), ct := Pv (i + 1), bk := D.nx } σ2 H2) (hd : ∀ σ H, Pv xs.length σ H → D.nx σ H) :
    ∃ W : Nat → Nat → St → Hp → Prop, (∃ m, W 0 m σ H) ∧ ∀ i m σ H, W i m σ H →
      ((Itzt K a b).stop i H ∧ D.nx σ H) ∨ ((Itzt K a b).go i H ∧ ∃ N : St → Hp → Prop, (∀ σ' H', N σ' H' → ∃ m', m' < m ∧ W (i + 1) m' σ' H') ∧ ∀ x H', (Itzt K a b).yld i H x H' → g x σ H' fun σ2 H2 => tb { D with nx := N, ct := N, bk := D.nx } σ2 H2) := by
  refine ⟨fun i m σ H => m = xs.length - i ∧ i ≤ xs.length ∧ Pv i σ H, ⟨xs.length, by simp, Nat.zero_le _, h0⟩, ?_⟩
  rintro i m σ H ⟨rfl, hi, p⟩
  obtain ⟨q1, q2⟩ := hl i σ H hi p
  by_cases hlt : i < xs.length
  · have hlt2 : i < ys.length := by omega
    refine .inr ⟨⟨xs, ys, xs[i], ys[i], q1, q2, by simp [hlt], by simp [hlt2]⟩, Pv (i + 1), fun σ' H' p' => ⟨xs.length - (i + 1), by omega, rfl, hlt, p'⟩, fun v H' y => ?_⟩
    obtain ⟨T, x, y, e1, hT, e2, hx, hy⟩ := y
    subst e1 e2
    exact hs i x y T σ H (hx xs q1) (hy ys q2) p hT
  · have e : i = xs.length := by omega
    subst e
    exact .inl ⟨⟨xs, q1, Nat.le_refl _⟩, hd σ H p⟩
end L2

namespace Co
open PySem L2
/-! ### the text by places -/
def top (i : Nat) : Stmt := PySem.Challenge.pw_collation_s05_moves.main.body.getD i (.Pass ⟨0, 0, 0, 0⟩)
abbrev sLetter : Stmt := top 12
abbrev sEnd : Stmt := top 13
abbrev sRefusal : Stmt := top 14
abbrev sCells : Stmt := top 15
abbrev sAlike : Stmt := top 16
abbrev sPair : Stmt := top 17
abbrev sInitP : Stmt := inClass (top 30) 0
abbrev sBegin : Stmt := top 31
abbrev sEnding : Stmt := top 32
abbrev sBehO : Stmt := top 33
abbrev sBehB : Stmt := top 34
abbrev sIsWord : Stmt := top 35
abbrev sIsGap : Stmt := top 36
abbrev sMay : Stmt := top 37
abbrev sStepCost : Stmt := top 38
abbrev sBehind : Stmt := top 39
abbrev sStepsCost : Stmt := top 40
abbrev sInitR : Stmt := inClass (top 43) 0
abbrev sInitM : Stmt := inClass (top 44) 0
abbrev sRunNos : Stmt := top 45
abbrev sGoesOn : Stmt := top 46
abbrev sCountsAt : Stmt := top 47
abbrev sGreatest : Stmt := top 48
abbrev sWithout : Stmt := top 49
abbrev sMovesTold : Stmt := top 50
abbrev sRows : Stmt := top 52
abbrev sMoves : Stmt := top 53
end Co

set_option Elab.async false
set_option linter.all false
set_option maxRecDepth 100000
set_option maxHeartbeats 2000000
namespace Co
open PySem PySem.Spec PyProof.Rows L2
open PySem.W (Codec)
open Vh (Cell Letters pairCost leastCost)
/-! ### the data -/
def nV (n : Nat) : V := .int (n : Int)
theorem nV_get {l : List Nat} {i n : Nat} (h : l[i]? = some n) : (l.map nV)[i]? = some (nV n) := by rw [List.getElem?_map, h]; rfl
def CellV (H : Hp) : Cell → V → Prop
  | .gap, v => v = .non
  | .word l, v => ∃ t, v = .ref t ∧ H t = some (.tup (l.map nV))
def CellsAt (H : Hp) (a : Addr) (cs : List Cell) : Prop := ∃ vs, H a = some (.lst vs) ∧ vs.length = cs.length ∧ ∀ (i : Nat) (c : Cell), cs[i]? = some c → ∃ v, vs[i]? = some v ∧ CellV H c v
theorem CellV.same {H H' : Hp} {c : Cell} {v : V} (s : Same H H') (h : CellV H c v) : CellV H' c v := by
  cases c with
  | gap => exact h
  | word l => obtain ⟨t, e, q⟩ := h; exact ⟨t, e, s _ _ q⟩
theorem CellsAt.same {H H' : Hp} {a : Addr} {cs : List Cell} (s : Same H H') (h : CellsAt H a cs) : CellsAt H' a cs := by
  obtain ⟨vs, h1, h2, h3⟩ := h
  exact ⟨vs, s _ _ h1, h2, fun i c hc => let ⟨v, e, q⟩ := h3 i c hc; ⟨v, e, q.same s⟩⟩
theorem _root_.L2.Same.upd {H H' : Hp} {l : Addr} {o : HO} (s : Same H H') (h : H l = none) : Same H (upd H' l o) := fun b u e => by
  rw [upd_ne (ne_of_none e h)]
  exact s b u e
/-- the numbers of a line -/
def fl (f : Nat → Int) (n : Nat) : List V := (List.range (n + 1)).map fun j => V.int (f j)
theorem fl_len (f : Nat → Int) (n : Nat) : (fl f n).length = n + 1 := by simp [fl]
theorem fl_get (f : Nat → Int) {n j : Nat} (h : j ≤ n) : (fl f n)[j]? = some (.int (f j)) := by
  unfold fl
  rw [List.getElem?_map, List.getElem?_range (by omega)]
  rfl
theorem fl_snoc (f : Nat → Int) (n : Nat) : fl f n ++ [.int (f (n + 1))] = fl f (n + 1) := by
  unfold fl
  rw [List.range_succ (n := n + 1), List.map_append]
  rfl
theorem fl_zero (f : Nat → Int) : fl f 0 = [.int (f 0)] := rfl
/-! ### the promises -/
def spLetter : Sp := fun vs H Q _ => ∃ n : Nat, vs = [nV n] ∧ Q (.bl (Cm.okLetter n)) H
def spEnd (K : PySem.W.Frag) : Sp := fun vs H Q _ => ∃ (a : Addr) (ns : List Nat) (i : Nat), vs = [.ref a, nV i] ∧ SqL K H a (ns.map nV) ∧ ns.length ≤ 3000 ∧ i < ns.length ∧ Q (.int (Cm.cellEnd ns i)) H
def spRefusal (K : PySem.W.Frag) : Sp := fun vs H Q _ => ∃ (a : Addr) (ns : List Nat), vs = [.ref a] ∧ SqL K H a (ns.map nV) ∧ ns.length ≤ 3000 ∧ Q (.int (Cm.refusal ns)) H
def spCells (K : PySem.W.Frag) : Sp := fun vs H Q _ => ∃ (a : Addr) (ns : List Nat) (cs : List Cell), vs = [.ref a] ∧ SqL K H a (ns.map nV) ∧ ns.length ≤ 3000 ∧ Cm.parse ns = some cs ∧ ∀ (H' : Hp) (q : Addr), Same H H' → CellsAt H' q cs → Q (.ref q) H'
def spAlike : Sp := fun vs H Q _ => ∃ (a b : Addr) (l m : Letters), vs = [.ref a, .ref b] ∧ H a = some (.tup (l.map nV)) ∧ H b = some (.tup (m.map nV)) ∧ ∀ k : Bool, (k = true ↔ l = m ∧ Vh.LOST ∉ l) → Q (.bl k) H
def spPair : Sp := fun vs H Q _ => ∃ (a b : Addr) (l m : Letters), vs = [.ref a, .ref b] ∧ H a = some (.tup (l.map nV)) ∧ H b = some (.tup (m.map nV)) ∧ ∀ H' : Hp, Same H H' → Q (.int (pairCost l m : Int)) H'
def spRows (K : PySem.W.Frag) : Sp := fun vs H Q _ => ∃ (a b : Addr) (xs ys : List Nat), vs = [.ref a, .ref b] ∧ SqL K H a (xs.map nV) ∧ SqL K H b (ys.map nV) ∧ xs.length ≤ 3000 ∧ ys.length ≤ 3000 ∧
  Q (.int (if Cm.refusal xs < 0 then Cm.refusal xs else Cm.refusal ys)) H
/-- what the top has written -/
structure Txt (K : PySem.W.Frag) (mg : Str → Option Value) : Prop where
  gap : ∃ t, mg "GAP" = some (.int 4294967295 t)
  lost : ∃ t, mg "LOST" = some (.int 16777216 t)
  lend : ∃ t, mg "LETTERS_END" = some (.int 2097152 t)
  longest : ∃ t, mg "LONGEST_WORD" = some (.int 512 t)
  mostN : ∃ t, mg "MOST_NUMBERS" = some (.int 1048576 t)
  mostC : ∃ t, mg "MOST_CELLS" = some (.int 4096 t)
  noRow : ∃ t, mg "NO_ROW" = some (.int (-1) t)
  tooMany : ∃ t, mg "TOO_MANY_CELLS" = some (.int (-2) t)
  alike : ∃ t, mg "ALIKE_COST" = some (.int 0 t)
  fit : ∃ t, mg "FIT_COST" = some (.int 1 t)
  unlike : ∃ t, mg "UNLIKE_COST" = some (.int 4 t)
  alone : ∃ t, mg "ALONE_COST" = some (.int 3 t)
  len : mg "len" = none
  range : mg "range" = none
  tup : mg "tuple" = none
  zip : mg "zip" = none
  min : mg "min" = none
  list : mg "list" = none
  rev : mg "reversed" = none
  enum : mg "enumerate" = none
/-- a whole number of the top -/
theorem pgl {X : Cx} {x : Str} {i : Int} {pos : Pos} (h : ∃ t, X.mg x = some (.int i t)) (hg : Gl X x := by rfl) (hd : (x == ("__debug__" : Str)) = false := by decide) : PE X (.Name x pos) (tC (.int i)) := by
  obtain ⟨t, e⟩ := h
  exact pe_glob hg e ⟨t, rfl⟩ hd
/-- len of a list or a tuple -/
theorem plen {X : Cx} {e : Expr} {te : TE} {p pos : Pos} (hm : X.mg "len" = none) (h : PE X e te) (hg : Gl X "len" := by rfl) (he : starEach (e :: []) X.env = (false, eval e X.env) :: starEach [] X.env := by rfl) (hpl : (backTo pos (starEach [] X.env)).any (·.1) = false := by rfl) :
    PE X (.Call (.Name "len" p) [e] [] pos) (tCB (fun xs H Q => ∃ p ys, xs = [.ref p] ∧ (SqL X.K H p ys ∨ SqT X.K H p ys) ∧ Q (.int ys.length) H) (tCons te tNil)) :=
  pe_callB call_len_seq hg hm PySem.boot_len (pa_cons h pa_nil he) (he := he) (hpl := hpl)
/-- xs[i] of a list -/
theorem pix {X : Cx} {a b : Expr} {ta tb : TE} {pos : Pos} (ha : PE X a ta) (hb : PE X b tb) (hs : PlainIx b := by exact fun _ _ => rfl) : PE X (.Subscript a b pos) (tOp (rIxL X.K) ta tb) := pe_ix ix_list ha hb hs
/-- a def as it is called -/
structure Use (K : PySem.W.Frag) (mg : Str → Option Value) (x : Str) (f : Addr) (fd : FuncData) (ps : List Str) : Prop where
  kp : PySem.W.keepIn K (.ref f) = true
  b : Binds K fd ps []
  m : mg x = some (.ref f)
end Co

set_option Elab.async false
set_option linter.all false
set_option maxRecDepth 100000
set_option maxHeartbeats 2000000
namespace Co
open PySem PySem.Spec PyProof.Rows L2
open PySem.W (Codec)
open Vh (Cell Letters pairCost leastCost)
section
variable {P : Program} {w : World} {K : PySem.W.Frag} {mg : Str → Option Value} {base : Heap}
/-! ### is_letter -/
theorem scLetter : FnScope ["number"] ["number"] (defScope sLetter) := ⟨rfl, rfl, rfl, by decide +kernel, rfl, by decide +kernel, by decide +kernel⟩
theorem ok_letter {f : Addr} {fd : FuncData} (F : Fun K "is_letter" "is_letter" sLetter f fd) (T : Txt K mg) : FnOk P w K mg base CX0 1 f fd ["number"] spLetter := by
  refine F.ok scLetter (fun vs H Q E h => ?_) (fun cdv A outer s H vs Q E hr h => ?_)
  · obtain ⟨n, rfl, _⟩ := h
    rfl
  · obtain ⟨n, rfl, k⟩ := h
    refine ⟨_, pss_one (ps_ret (pe_or (pe_cmpR op_lt (pv 0) (pgl T.lend) (nomark _)) (pe_one (pe_cmpR op_eq (pv 0) (pgl T.lost) (nomark _))))), ?_⟩
    rw [Cm.okLetter_int] at k
    obtain ⟨c, hc⟩ : ∃ c, c = decide ((n : Int) < 2097152) := ⟨_, rfl⟩
    obtain ⟨e, he⟩ : ∃ e, e = decide ((n : Int) = 16777216) := ⟨_, rfl⟩
    rw [← hc, ← he] at k
    have e2 : decide (nV n = V.int 16777216) = e := by
      unfold nV
      rw [dec_int, Bool.beq_eq_decide_eq, he]
    refine ⟨_, rfl, _, _, rfl, rfl, c, congrArg V.bl hc.symm, ite2 (fun h1 => ?_) (fun h1 => ?_)⟩
    · rw [h1] at k
      exact k
    · rw [Bool.eq_false_iff.mpr h1] at k
      refine ⟨_, rfl, rfl, ?_⟩
      show Q (.bl (decide (nV n = V.int 16777216))) H
      rw [e2]
      exact k
/-! ### cell_end -/
theorem scEnd : FnScope ["numbers", "start", "kind", "end", "place"] ["numbers", "start"] (defScope sEnd) := ⟨rfl, rfl, rfl, by decide +kernel, rfl, by decide +kernel, by decide +kernel⟩
theorem dec_nV (n : Nat) (i : Int) : (decide (nV n = V.int i) = true) ↔ (n : Int) = i := by
  unfold nV
  rw [dec_int]
  exact beq_iff_eq
theorem dec_V (n i : Int) : (decide (V.int n = V.int i) = true) ↔ n = i := by
  rw [dec_int]
  exact beq_iff_eq
theorem end_gap {ns : List Nat} {i : Nat} (h : ns.getD i 0 = 4294967295) : Cm.cellEnd ns i = (i : Int) + 1 := by
  unfold Cm.cellEnd
  simp only [show VhC.GAP = 4294967295 from rfl]
  rw [if_pos h]
theorem end_word {ns : List Nat} {i : Nat} (h : ¬ ns.getD i 0 = 4294967295) (h2 : ns.getD i 0 ≤ 512 ∧ i + 1 + ns.getD i 0 ≤ ns.length ∧ ((ns.drop (i + 1)).take (ns.getD i 0)).all Cm.okLetter = true) : Cm.cellEnd ns i = (i : Int) + 1 + (ns.getD i 0 : Int) := by
  unfold Cm.cellEnd
  simp only [show VhC.GAP = 4294967295 from rfl]
  rw [if_neg h, if_pos h2]
theorem end_none {ns : List Nat} {i : Nat} (h : ¬ ns.getD i 0 = 4294967295) (h2 : ¬ (ns.getD i 0 ≤ 512 ∧ i + 1 + ns.getD i 0 ≤ ns.length ∧ ((ns.drop (i + 1)).take (ns.getD i 0)).all Cm.okLetter = true)) : Cm.cellEnd ns i = -1 := by
  unfold Cm.cellEnd
  simp only [show VhC.GAP = 4294967295 from rfl]
  rw [if_neg h, if_neg h2]
theorem ok_end {f fL : Addr} {fd fdL : FuncData} (F : Fun K "cell_end" "cell_end" sEnd f fd) (T : Txt K mg) (FL : Fun K "is_letter" "is_letter" sLetter fL fdL) (bL : Binds K fdL ["number"] []) (mL : mg "is_letter" = some (.ref fL)) :
    FnOk P w K mg base CX0 2 f fd ["numbers", "start"] (spEnd K) := by
  have GL : FnOk P w K mg base CX0 1 fL fdL ["number"] spLetter := ok_letter FL T
  refine F.ok scEnd (fun vs H Q E h => ?_) (fun cdv A outer s H vs Q E hr h => ?_)
  · obtain ⟨a, ns, i, rfl, _⟩ := h
    rfl
  · obtain ⟨a, ns, i, rfl, hS, hlen, hi, k⟩ := h
    refine ⟨_, pss_cons (ps_set (i := 2) scEnd.nd rfl (Or.inl rfl) (pix (pv 0) (pv 1)))
      (pss_cons (ps_if (pt_cmpR op_eq (pv 2) (pgl T.gap) (nomark _)) (pss_one (ps_ret (pe_op op_add (pv 1) pe_int))) pss_nil)
      (pss_cons (ps_set (i := 3) scEnd.nd rfl (Or.inl rfl) (pe_op op_add (pe_op op_add (pv 1) pe_int) (pv 2)))
      (pss_cons (ps_if (pw_or (pt_cmpR op_gt (pv 2) (pgl T.longest) (nomark _)) (pw_or1 (pt_cmpR op_gt (pv 3) (plen T.len (pv 0)) (nomark _)))).pt (pss_one (ps_ret (pgl T.noRow))) pss_nil)
      (pss_cons (ps_for PassesOwn.never rfl (pi_range2 rfl T.range (pa_cons (pe_op op_add (pv 1) pe_int) (pa_cons (pv 3) pa_nil))) (pg_name (i := 4) scEnd.nd rfl (Or.inl rfl))
        (pss_one (ps_if (pt_not (pt_val (pe_call GL hr rfl mL FL.kp bL .nil pass0 (pa_cons (pix (pv 0) (pv 4)) pa_nil)))) (pss_one (ps_ret (pgl T.noRow))) pss_nil)))
      (pss_one (ps_ret (pv 3))))))), ?_⟩
    obtain ⟨kd, hk⟩ : ∃ kd, ns[i]? = some kd := ⟨_, List.getElem?_eq_getElem hi⟩
    have hd : ns.getD i 0 = kd := by rw [List.getD_eq_getElem?_getD, hk]; rfl
    refine ⟨_, rfl, _, rfl, a, _, _, _, rfl, rfl, hS, atI_nat (nV_get hk), ?_⟩
    refine ⟨_, rfl, rfl, _, rfl, ite2 (fun hc => ?_) (fun hc => ?_)⟩
    · have e : (kd : Int) = 4294967295 := (dec_nV _ _).mp hc
      rw [end_gap (by omega)] at k
      exact ⟨_, rfl, _, _, rfl, rfl, k⟩
    · have ne : ¬ ns.getD i 0 = 4294967295 := fun z => hc ((dec_nV _ _).mpr (by omega))
      refine ⟨_, rfl, _, _, rfl, rfl, _, rfl, _, _, rfl, rfl, ?_⟩
      refine ⟨_, rfl, _, _, rfl, rfl, _, rfl, ite2 (fun h1 => ?_) (fun h1 => ?_)⟩
      · have z : (512 : Int) < (kd : Int) := of_decide_eq_true h1
        rw [end_none ne (fun q => by omega)] at k
        exact iteT k
      · have z1 : ¬ (512 : Int) < (kd : Int) := fun z => h1 (decide_eq_true z)
        refine ⟨_, rfl, _, rfl, a, _, rfl, .inl hS, _, _, rfl, rfl, _, rfl, ite2 (fun h2 => ?_) (fun h2 => ?_)⟩
        · have z : ((ns.map nV).length : Int) < (i : Int) + 1 + (kd : Int) := of_decide_eq_true h2
          rw [List.length_map] at z
          rw [end_none ne (fun q => by omega)] at k
          exact k
        · have z2 : ¬ ((ns.map nV).length : Int) < (i : Int) + 1 + (kd : Int) := fun z => h2 (decide_eq_true z)
          rw [List.length_map] at z2
          have hn : (((i : Int) + 1 + (kd : Int)) - ((i : Int) + 1)).toNat = kd := by omega
          refine ⟨_, rfl, _, _, rfl, rfl, _, rfl, (i : Int) + 1, (i : Int) + 1 + (kd : Int), rfl, ⟨by omega, by omega, by omega, by omega⟩, ?_⟩
          refine for_range (lo := (i : Int) + 1) (n := (((i : Int) + 1 + (kd : Int)) - ((i : Int) + 1)).toNat) (fun t σ H' => (∃ v, σ = [some (.ref a), some (nV i), some (nV kd), some (.int ((i : Int) + 1 + (kd : Int))), v]) ∧ H' = H ∧ ((ns.drop (i + 1)).take t).all Cm.okLetter = true)
            ⟨⟨_, rfl⟩, rfl, rfl⟩ ?_ ?_
          · rintro t σ H' ht ⟨⟨v, rfl⟩, rfl, hall⟩
            rw [hn] at ht
            obtain ⟨m, hm⟩ : ∃ m, ns[i + 1 + t]? = some m := ⟨_, List.getElem?_eq_getElem (by omega)⟩
            have hm2 : (ns.drop (i + 1))[t]? = some m := by rw [List.getElem?_drop]; exact hm
            refine ⟨_, rfl, _, rfl, a, _, _, _, rfl, rfl, hS, at_of (j := i + 1 + t) (by omega) (nV_get hm), m, rfl, _, rfl, ite2 (fun hb => ?_) (fun hb => ?_)⟩
            · have hb' : Cm.okLetter m = false := by simpa using hb
              rw [end_none ne (fun q => ?_)] at k
              · exact k
              · have q3 := List.all_eq_true.mp q.2.2 m (by
                  rw [hd]
                  exact List.mem_of_getElem? (i := t) (by rw [List.getElem?_take_of_lt ht]; exact hm2))
                rw [hb'] at q3
                cases q3
            · have hb' : Cm.okLetter m = true := by simpa using hb
              refine ⟨⟨_, rfl⟩, rfl, ?_⟩
              rw [List.take_add_one, hm2, List.all_append, hall]
              simp [hb']
          · rintro σ H' ⟨⟨v, rfl⟩, rfl, hall⟩
            rw [hn] at hall
            rw [end_word ne ⟨by omega, by omega, by rw [hd]; exact hall⟩, hd] at k
            exact ⟨_, rfl, k⟩
/-! ### refusal -/
theorem scRef : FnScope ["numbers", "cells", "place"] ["numbers"] (defScope sRefusal) := ⟨rfl, rfl, rfl, by decide +kernel, rfl, by decide +kernel, by decide +kernel⟩
theorem ok_refusal {f fE : Addr} {fd fdE : FuncData} (F : Fun K "refusal" "refusal" sRefusal f fd) (T : Txt K mg) (GE : FnOk P w K mg base CX0 2 fE fdE ["numbers", "start"] (spEnd K)) (kE : PySem.W.keepIn K (.ref fE) = true) (bE : Binds K fdE ["numbers", "start"] []) (mE : mg "cell_end" = some (.ref fE)) :
    FnOk P w K mg base CX0 3 f fd ["numbers"] (spRefusal K) := by
  refine F.ok scRef (fun vs H Q E h => ?_) (fun cdv A outer s H vs Q E hr h => ?_)
  · obtain ⟨a, ns, rfl, _⟩ := h
    rfl
  · obtain ⟨a, ns, rfl, hS, hlen, k⟩ := h
    refine ⟨_, pss_cons (ps_if (pt_cmpR op_gt (plen T.len (pv 0)) (pgl T.mostN) (nomark _)) (pss_one (ps_ret (pgl T.noRow))) pss_nil)
      (pss_cons (ps_set (i := 1) scRef.nd rfl (Or.inl rfl) pe_int)
      (pss_cons (ps_set (i := 2) scRef.nd rfl (Or.inl rfl) pe_int)
      (pss_cons (ps_while PassesOwn.never (pt_cmpR op_lt (pv 2) (plen T.len (pv 0)) (nomark _))
        (pss_cons (ps_set (i := 2) scRef.nd rfl (Or.inl rfl) (pe_call GE hr rfl mE kE bE .nil pass0 (pa_cons (pv 0) (pa_cons (pv 2) pa_nil))))
        (pss_cons (ps_if (pt_cmpR op_eq (pv 2) (pgl T.noRow) (nomark _)) (pss_one (ps_ret (pgl T.noRow))) pss_nil)
        (pss_one (ps_aug (i := 1) scRef.nd rfl (Or.inl rfl) pe_int ip_add)))))
      (pss_cons (ps_if (pt_cmpR op_gt (pv 1) (pgl T.mostC) (nomark _)) (pss_one (ps_ret (pgl T.tooMany))) pss_nil)
      (pss_one (ps_ret pe_int)))))), ?_⟩
    refine ⟨_, rfl, a, _, rfl, .inl hS, _, _, rfl, rfl, _, rfl, ite2 (fun hc => ?_) (fun _ => ?_)⟩
    · have z : (1048576 : Int) < ((ns.map nV).length : Int) := of_decide_eq_true hc
      rw [List.length_map] at z
      omega
    · refine ⟨fun m σ H' => ∃ (p c : Nat) (pr : List Cell), m = ns.length - p ∧ σ = [some (.ref a), some (nV c), some (nV p)] ∧ H' = H ∧ p ≤ ns.length ∧ pr.length = c ∧ Cm.parse ns = (Cm.parse (ns.drop p)).map (pr ++ ·), ⟨_, 0, 0, [], rfl, rfl, rfl, Nat.zero_le _, rfl, ?_⟩, ?_⟩
      · rw [List.drop_zero]
        cases Cm.parse ns <;> rfl
      · rintro m σ H' ⟨p, c, pr, rfl, rfl, rfl, hp, hc, he⟩
        refine ⟨_, rfl, _, rfl, a, _, rfl, .inl hS, _, _, rfl, rfl, _, rfl, ite2 (fun hlt => ?_) (fun hge => ?_)⟩
        · have hlt : (p : Int) < ((ns.map nV).length : Int) := of_decide_eq_true hlt
          rw [List.length_map] at hlt
          have hlt : p < ns.length := by omega
          refine ⟨fun σ' H'' => ∃ (p' c' : Nat) (pr' : List Cell), ns.length - p' < ns.length - p ∧ σ' = [some (.ref a), some (nV c'), some (nV p')] ∧ H'' = H' ∧ p' ≤ ns.length ∧ pr'.length = c' ∧ Cm.parse ns = (Cm.parse (ns.drop p')).map (pr' ++ ·),
            fun σ' H'' ⟨p', c', pr', h1, h2, h3, h4, h5, h6⟩ => ⟨_, h1, p', c', pr', rfl, h2, h3, h4, h5, h6⟩, ?_⟩
          refine ⟨_, rfl, _, rfl, a, ns, p, rfl, hS, hlen, hlt, ?_⟩
          rcases Cm.cellEnd_spec hlt with ⟨e1, e2⟩ | ⟨e, cell, e1, e2, e3, e4, _⟩
          · rw [e1]
            refine ⟨_, rfl, rfl, _, rfl, ite2 (fun _ => ?_) (fun q => absurd ((dec_V _ _).mpr rfl) q)⟩
            have z : Cm.refusal ns = -1 := by
              unfold Cm.refusal
              rw [he, e2]
              rfl
            rw [z] at k
            exact k
          · rw [e1]
            refine ⟨_, rfl, rfl, _, rfl, ite2 (fun q => ?_) (fun _ => ?_)⟩
            · have z := (dec_V _ _).mp q
              omega
            · refine ⟨_, rfl, _, _, rfl, rfl, ?_⟩
              refine ⟨e, c + 1, pr ++ [cell], by omega, rfl, rfl, e3, by rw [List.length_append, hc]; rfl, ?_⟩
              rw [he, e4, Option.map_map]
              congr 1
              funext z
              simp
        · have hge : ¬ (p : Int) < ((ns.map nV).length : Int) := fun z => hge (decide_eq_true z)
          rw [List.length_map] at hge
          have z : Cm.parse ns = some pr := by
            rw [he, List.drop_eq_nil_of_le (by omega), Cm.parse_nil]
            simp
          have z2 : Cm.refusal ns = if 4096 < c then -2 else 0 := by
            unfold Cm.refusal
            rw [z, ← hc]
          rw [z2] at k
          refine ⟨_, rfl, _, _, rfl, rfl, _, rfl, ite2 (fun q => ?_) (fun q => ?_)⟩
          · have q : (4096 : Int) < (c : Int) := of_decide_eq_true q
            rw [if_pos (by omega)] at k
            exact k
          · have q : ¬ (4096 : Int) < (c : Int) := fun z => q (decide_eq_true z)
            rw [if_neg (by omega)] at k
            exact k
end
end Co

set_option Elab.async false
set_option linter.all false
set_option maxRecDepth 100000
set_option maxHeartbeats 2000000
namespace Co
open PySem PySem.Spec PyProof.Rows L2
open PySem.W (Codec)
open Vh (Cell Letters pairCost leastCost)
section
variable {P : Program} {w : World} {K : PySem.W.Frag} {mg : Str → Option Value} {base : Heap}
/-! ### row_cells -/
theorem CellsAt.snoc {H : Hp} {q : Addr} {cs : List Cell} {vs : List V} {c : Cell} {v : V} {H' : Hp} (hq : H q = some (.lst vs)) (hl : vs.length = cs.length) (h : ∀ (i : Nat) (c : Cell), cs[i]? = some c → ∃ v, vs[i]? = some v ∧ CellV H c v)
    (k : ∀ c v, CellV H c v → CellV H' c v) (hv : CellV H' c v) (hq' : H' q = some (.lst (vs ++ [v]))) : CellsAt H' q (cs ++ [c]) := by
  refine ⟨_, hq', by rw [List.length_append, List.length_append, hl]; rfl, fun i d hd => ?_⟩
  by_cases hi : i < cs.length
  · rw [List.getElem?_append_left hi] at hd
    obtain ⟨u, e, q⟩ := h i d hd
    exact ⟨u, by rw [List.getElem?_append_left (by omega)]; exact e, k _ _ q⟩
  · rw [List.getElem?_append_right (by omega)] at hd
    rcases Nat.eq_zero_or_pos (i - cs.length) with z | z
    · rw [z] at hd
      have e : c = d := Option.some.inj hd
      subst e
      refine ⟨v, ?_, hv⟩
      rw [List.getElem?_append_right (by omega), show i - vs.length = 0 by omega]
      rfl
    · rw [List.getElem?_eq_none (by simp; omega)] at hd
      cases hd
theorem scCells : FnScope ["numbers", "cells", "place", "end"] ["numbers"] (defScope sCells) := ⟨rfl, rfl, rfl, by decide +kernel, rfl, by decide +kernel, by decide +kernel⟩
theorem cut_nat (ns : List Nat) {i e : Nat} (h1 : i ≤ ns.length) (h2 : e ≤ ns.length) : cutV (ns.map nV) (some (i : Int)) (some (e : Int)) = ((ns.drop i).take (e - i)).map nV := by
  unfold cutV
  rw [HT.sIx_nat, HT.sIx_nat, List.length_map, Nat.min_eq_left h1, Nat.min_eq_left h2, List.map_take, List.map_drop]
theorem ok_cells {f fE : Addr} {fd fdE : FuncData} (F : Fun K "row_cells" "row_cells" sCells f fd) (T : Txt K mg) (GE : FnOk P w K mg base CX0 2 fE fdE ["numbers", "start"] (spEnd K)) (kE : PySem.W.keepIn K (.ref fE) = true) (bE : Binds K fdE ["numbers", "start"] []) (mE : mg "cell_end" = some (.ref fE)) :
    FnOk P w K mg base CX0 3 f fd ["numbers"] (spCells K) := by
  refine F.ok scCells (fun vs H Q E h => ?_) (fun cdv A outer s H vs Q E hr h => ?_)
  · obtain ⟨a, ns, cs, rfl, _⟩ := h
    rfl
  · obtain ⟨a, ns, cs, rfl, hS, hlen, hcs, k⟩ := h
    refine ⟨_, pss_cons (ps_set (i := 1) scCells.nd rfl (Or.inl rfl) (pe_lst pa_nil))
      (pss_cons (ps_set (i := 2) scCells.nd rfl (Or.inl rfl) pe_int)
      (pss_cons (ps_while PassesOwn.never (pt_cmpR op_lt (pv 2) (plen T.len (pv 0)) (nomark _))
        (pss_cons (ps_set (i := 3) scCells.nd rfl (Or.inl rfl) (pe_call GE hr rfl mE kE bE .nil pass0 (pa_cons (pv 0) (pa_cons (pv 2) pa_nil))))
        (pss_cons (ps_if (pt_cmpR op_eq (pix (pv 0) (pv 2)) (pgl T.gap) (nomark _))
          (pss_one (ps_expr (pe_bm PySem.F.plainAttrs_list PySem.F.slot_list_append PySem.F.type_list_append mt_append (pv 1) (pa_cons pe_non pa_nil))))
          (pss_one (ps_expr (pe_bm PySem.F.plainAttrs_list PySem.F.slot_list_append PySem.F.type_list_append mt_append (pv 1) (pa_cons
            (pe_callTy call_tuple_of rfl T.tup (by decide +kernel) (pa_cons (pe_slice sl_list (pv 0) (po_some (pe_op op_add (pv 2) pe_int)) (po_some (pv 3))) pa_nil)) pa_nil)))))
        (pss_one (ps_set (i := 2) scCells.nd rfl (Or.inl rfl) (pv 3))))))
      (pss_one (ps_ret (pv 1))))), ?_⟩
    refine ⟨Nat.zero_le _, fun q hq => ?_⟩
    have s0 : Same H (upd H q (.lst [])) := (Same.refl H).upd hq
    refine ⟨fun m σ H' => ∃ (p : Nat) (v : Option V) (pr su : List Cell), m = ns.length - p ∧ σ = [some (.ref a), some (.ref q), some (nV p), v] ∧ Same H H' ∧ p ≤ ns.length ∧ CellsAt H' q pr ∧ pr.length ≤ p ∧ Cm.parse (ns.drop p) = some su ∧ pr ++ su = cs,
      ⟨_, 0, none, [], cs, rfl, rfl, s0, Nat.zero_le _, ⟨[], upd_same, rfl, fun i c h => by simp at h⟩, Nat.zero_le _, by rw [List.drop_zero]; exact hcs, rfl⟩, ?_⟩
    rintro m σ H' ⟨p, v, pr, su, rfl, rfl, s1, hp, hat, hpl, hsu, hsum⟩
    refine ⟨_, rfl, _, rfl, a, _, rfl, .inl (s1.seq hS), _, _, rfl, rfl, _, rfl, ite2 (fun hlt => ?_) (fun hge => ?_)⟩
    · have hlt : (p : Int) < ((ns.map nV).length : Int) := of_decide_eq_true hlt
      rw [List.length_map] at hlt
      have hlt : p < ns.length := by omega
      refine ⟨fun σ' H'' => ∃ (p' : Nat) (v : Option V) (pr' su' : List Cell), ns.length - p' < ns.length - p ∧ σ' = [some (.ref a), some (.ref q), some (nV p'), v] ∧ Same H H'' ∧ p' ≤ ns.length ∧ CellsAt H'' q pr' ∧ pr'.length ≤ p' ∧ Cm.parse (ns.drop p') = some su' ∧ pr' ++ su' = cs,
        fun σ' H'' ⟨p', v', pr', su', h1, h2, h3, h4, h5, h6, h7, h8⟩ => ⟨_, h1, p', v', pr', su', rfl, h2, h3, h4, h5, h6, h7, h8⟩, ?_⟩
      refine ⟨_, rfl, _, rfl, a, ns, p, rfl, s1.seq hS, hlen, hlt, ?_⟩
      rcases Cm.cellEnd_spec hlt with ⟨_, e2⟩ | ⟨e, cell, e1, e2, e3, e4, e5⟩
      · rw [e2] at hsu
        cases hsu
      · rw [e1]
        obtain ⟨kd, hk⟩ : ∃ kd, ns[p]? = some kd := ⟨_, List.getElem?_eq_getElem hlt⟩
        have hd : ns.getD p 0 = kd := by rw [List.getD_eq_getElem?_getD, hk]; rfl
        obtain ⟨su', hsu', hsu2⟩ : ∃ su', Cm.parse (ns.drop e) = some su' ∧ su = cell :: su' := by
          rw [e4] at hsu
          cases z : Cm.parse (ns.drop e) with
          | none => rw [z] at hsu; cases hsu
          | some d => rw [z] at hsu; cases hsu; exact ⟨d, rfl, rfl⟩
        obtain ⟨vs, hv1, hv2, hv3⟩ := hat
        have hvl : vs.length < sizeLine := Nat.lt_of_le_of_lt (show vs.length ≤ 3000 by omega) (by decide)
        refine ⟨_, rfl, _, rfl, a, _, _, _, rfl, rfl, s1.seq hS, atI_nat (nV_get hk), rfl, _, rfl, ite2 (fun hg => ?_) (fun hg => ?_)⟩
        · have hg : (kd : Int) = 4294967295 := (dec_nV _ _).mp hg
          have ec : cell = .gap := by
            rcases e5 with ⟨_, z⟩ | ⟨z, _⟩
            · exact z
            · exact absurd (show ns.getD p 0 = VhC.GAP by unfold VhC.GAP; omega) z
          refine ⟨_, rfl, .inl ⟨rfl, _, SqL.of hv1⟩, q, _, _, rfl, rfl, hv1, hvl, ?_⟩
          refine ⟨_, rfl, ?_⟩
          have s2 : Same H (upd H' q (.lst (vs ++ [V.non]))) := s1.upd hq
          refine ⟨e, _, pr ++ [cell], su', by omega, rfl, s2, e3, ?_, by rw [List.length_append]; simp; omega, hsu', by rw [← hsum, hsu2]; simp⟩
          refine CellsAt.snoc hv1 hv2 hv3 (fun c v hcv => ?_) (by rw [ec]; rfl) upd_same
          cases c with
          | gap => exact hcv
          | word l => obtain ⟨t, q1, q2⟩ := hcv; exact ⟨t, q1, by rw [upd_ne (ne_of q2 hv1 (by intro z; cases z))]; exact q2⟩
        · have hg : ¬ (kd : Int) = 4294967295 := fun z => hg ((dec_nV _ _).mpr z)
          have ec : cell = .word ((ns.drop (p + 1)).take (e - (p + 1))) := by
            rcases e5 with ⟨z, _⟩ | ⟨_, z⟩
            · exact absurd z (by unfold VhC.GAP; omega)
            · exact z
          refine ⟨_, rfl, .inl ⟨rfl, _, SqL.of hv1⟩, _, rfl, _, rfl, _, _, rfl, rfl, _, rfl, _, rfl, _, rfl, a, _, rfl, s1.seq hS, fun p1 hp1 => ?_⟩
          refine ⟨p1, _, rfl, .inl ⟨SqL.of upd_same, fun p2 hp2 => ?_⟩⟩
          have n1 : q ≠ p1 := ne_of_none hv1 hp1
          have n2 : q ≠ p2 := fun z => by rw [← z, upd_ne n1, hv1] at hp2; cases hp2
          have hv1' : (upd (upd H' p1 (.lst (cutV (ns.map nV) (some ((p : Int) + 1)) (some (e : Int))))) p2 (.tup (cutV (ns.map nV) (some ((p : Int) + 1)) (some (e : Int))))) q = some (.lst vs) := by
            rw [upd_ne n2, upd_ne n1]; exact hv1
          refine ⟨q, _, _, rfl, rfl, hv1', hvl, ?_⟩
          refine ⟨_, rfl, ?_⟩
          have f1 : H p1 = none := s1.free hp1
          have f2 : H p2 = none := (s1.upd f1 (o := .lst (cutV (ns.map nV) (some ((p : Int) + 1)) (some (e : Int))))).free hp2
          have s3 : Same H' (upd (upd H' p1 (.lst (cutV (ns.map nV) (some ((p : Int) + 1)) (some (e : Int))))) p2 (.tup (cutV (ns.map nV) (some ((p : Int) + 1)) (some (e : Int))))) :=
            ((Same.refl H').upd hp1).upd (((Same.refl H').upd hp1).free hp2)
          refine ⟨e, _, pr ++ [cell], su', by omega, rfl, (s1.trans s3).upd hq, e3, ?_, by rw [List.length_append]; simp; omega, hsu', by rw [← hsum, hsu2]; simp⟩
          have ecut : cutV (ns.map nV) (some ((p : Int) + 1)) (some (e : Int)) = ((ns.drop (p + 1)).take (e - (p + 1))).map nV := by
            rw [show ((p : Int) + 1) = ((p + 1 : Nat) : Int) by omega]
            exact cut_nat ns (by omega) e3
          have up : ∀ c v, CellV H' c v → CellV (upd (upd (upd H' p1 (.lst (cutV (ns.map nV) (some ((p : Int) + 1)) (some (e : Int))))) p2 (.tup (cutV (ns.map nV) (some ((p : Int) + 1)) (some (e : Int))))) q (.lst (vs ++ [V.ref p2]))) c v := fun c v hcv => by
            cases c with
            | gap => exact hcv
            | word l => obtain ⟨t, q1, q2⟩ := hcv; exact ⟨t, q1, by rw [upd_ne (ne_of q2 hv1 (by intro z; cases z))]; exact s3 _ _ q2⟩
          refine CellsAt.snoc hv1 hv2 hv3 up ?_ upd_same
          rw [ec]
          exact ⟨p2, rfl, by rw [upd_ne (Ne.symm n2), upd_same, ecut]⟩
    · have hge : ¬ (p : Int) < ((ns.map nV).length : Int) := fun z => hge (decide_eq_true z)
      rw [List.length_map] at hge
      rw [List.drop_eq_nil_of_le (by omega), Cm.parse_nil] at hsu
      have e0 : su = [] := (Option.some.inj hsu).symm
      rw [e0, List.append_nil] at hsum
      subst hsum
      exact ⟨_, rfl, k H' q s1 hat⟩
/-! ### tuples of numbers -/
def pdN (l : List Nat) : List PyData := l.map fun (n : Nat) => PyData.int (n : Int)
theorem dp_all {K : PySem.W.Frag} {H : Hp} : ∀ l : List Nat, DpAll K H (l.map nV) (pdN l)
  | [] => .nil
  | n :: l => .cons (.int _) (dp_all l)
theorem pd_eqv : ∀ l m : List Nat, PyData.eqvAll (pdN l) (pdN m) = decide (l = m)
  | [], [] => rfl
  | [], _ :: _ => rfl
  | _ :: _, [] => rfl
  | a :: l, b :: m => by
    show (PyData.eqv (.int (a : Int)) (.int (b : Int)) && PyData.eqvAll (pdN l) (pdN m)) = _
    rw [pd_eqv l m]
    show (((a : Int) == (b : Int)) && decide (l = m)) = _
    by_cases h1 : a = b
    · subst h1
      by_cases h2 : l = m
      · subst h2; simp
      · simp [h2]
    · have : ((a : Int) == (b : Int)) = false := beq_eq_false_iff_ne.mpr (by omega)
      rw [this]
      simp [h1]
theorem pd_lay : ∀ l : List Nat, PyData.canLayAll0 (pdN l) = true
  | [] => rfl
  | _ :: l => by
    show (PyData.canLay0 (.int _) && PyData.canLayAll0 (pdN l)) = true
    rw [pd_lay l]
    rfl
theorem flat_nV (l : List Nat) : (l.map nV).all flatV = true := by
  rw [List.all_map]
  exact List.all_eq_true.mpr fun _ _ => rfl
theorem in_nV (l : List Nat) : inV (.int 16777216) (l.map nV) = decide (Vh.LOST ∈ l) := by
  unfold inV
  induction l with
  | nil => rfl
  | cons n l ih =>
    rw [List.map_cons, List.any_cons, ih]
    have e : eqV (nV n) (.int 16777216) = decide (n = Vh.LOST) := by
      show ((n : Int) == 16777216) = _
      unfold Vh.LOST
      by_cases h : n = 2 ^ 24
      · rw [decide_eq_true h, h]; rfl
      · rw [decide_eq_false h]; exact beq_eq_false_iff_ne.mpr (by omega)
    rw [e]
    by_cases h1 : n = Vh.LOST
    · simp [h1]
    · simp [h1, Ne.symm h1]
theorem pd_depth : ∀ l : List Nat, PyData.depthAll (pdN l) ≤ 1
  | [] => by simp [pdN, PyData.depthAll]
  | _ :: l => by
    have := pd_depth l
    simp only [pdN, List.map_cons, PyData.depthAll, PyData.depth] at this ⊢
    omega
theorem pd_shaped (l : List Nat) : SeqAt.shaped (.tuple (pdN l)) = true := by
  unfold SeqAt.shaped
  rw [Bool.and_eq_true]
  refine ⟨?_, decide_eq_true ?_⟩
  · show PyData.canLayAll0 (pdN l) = true
    exact pd_lay l
  · have := pd_depth l
    simp only [PyData.depth]
    omega
theorem nV_of {l : List Nat} {i : Nat} {x : V} (h : (l.map nV)[i]? = some x) : ∃ n, l[i]? = some n ∧ x = nV n := by
  rw [List.getElem?_map] at h
  cases e : l[i]? with
  | none => rw [e] at h; cases h
  | some n => rw [e] at h; exact ⟨n, rfl, (Option.some.inj h).symm⟩
/-! ### are_alike -/
theorem scAlike : FnScope ["word", "other"] ["word", "other"] (defScope sAlike) := ⟨rfl, rfl, rfl, by decide +kernel, rfl, by decide +kernel, by decide +kernel⟩
theorem ok_alike {f : Addr} {fd : FuncData} (F : Fun K "are_alike" "are_alike" sAlike f fd) (T : Txt K mg) : FnOk P w K mg base CX0 1 f fd ["word", "other"] spAlike := by
  refine F.ok scAlike (fun vs H Q E h => ?_) (fun cdv A outer s H vs Q E hr h => ?_)
  · obtain ⟨a, b, l, m, rfl, _⟩ := h
    rfl
  · obtain ⟨a, b, l, m, rfl, ha, hb, k⟩ := h
    refine ⟨_, pss_one (ps_ret (pe_and (pe_cmpR (op_eqD hr.units) (pv 0) (pv 1) (nomark _)) (pe_one (pe_cmpR op_notIn_seq (pgl T.lost) (pv 0) rfl)))), ?_⟩
    refine ⟨_, rfl, _, rfl, .tuple (pdN l), .tuple (pdN m), .tup (SqT.of ha) (dp_all l), .tup (SqT.of hb) (dp_all m), pd_shaped l, pd_shaped m, _, rfl, ite2 (fun h1 => ?_) (fun h1 => ?_)⟩
    · have h1 : PyData.eqvAll (pdN l) (pdN m) = true := h1
      rw [pd_eqv] at h1
      have h1 : l = m := of_decide_eq_true h1
      refine ⟨_, rfl, a, _, rfl, .inr (SqT.of ha), rfl, flat_nV l, ?_⟩
      refine k _ ?_
      rw [in_nV]
      simp [h1]
    · have h1 : ¬ PyData.eqvAll (pdN l) (pdN m) = true := h1
      rw [pd_eqv] at h1
      refine k _ ?_
      have h2 : ¬ l = m := fun z => h1 (decide_eq_true z)
      constructor
      · intro z
        cases z
      · intro z
        exact absurd z.1 h2
/-! ### pair_cost -/
theorem scPair : FnScope ["word", "other", "letter", "beside"] ["word", "other"] (defScope sPair) := ⟨rfl, rfl, rfl, by decide +kernel, rfl, by decide +kernel, by decide +kernel⟩
theorem ok_pair {f fA : Addr} {fd fdA : FuncData} (F : Fun K "pair_cost" "pair_cost" sPair f fd) (T : Txt K mg) (GA : FnOk P w K mg base CX0 1 fA fdA ["word", "other"] spAlike) (uA : Use K mg "are_alike" fA fdA ["word", "other"]) : FnOk P w K mg base CX0 2 f fd ["word", "other"] spPair := by
  refine F.ok scPair (fun vs H Q E h => ?_) (fun cdv A outer s H vs Q E hr h => ?_)
  · obtain ⟨a, b, l, m, rfl, _⟩ := h
    rfl
  · obtain ⟨a, b, l, m, rfl, ha, hb, k⟩ := h
    refine ⟨_, pss_cons (ps_if (pt_val (pe_call GA hr rfl uA.m uA.kp uA.b .nil pass0 (pa_cons (pv 0) (pa_cons (pv 1) pa_nil)))) (pss_one (ps_ret (pgl T.alike))) pss_nil)
      (pss_cons (ps_if (pt_cmpR op_ne (plen T.len (pv 0)) (plen T.len (pv 1)) (nomark _)) (pss_one (ps_ret (pgl T.unlike))) pss_nil)
      (pss_cons (ps_for PassesOwn.never rfl (pi_zipT rfl T.zip (pa_cons (pv 0) (pa_cons (pv 1) pa_nil))) (pg_tup rfl (pgs_cons (pg_name (i := 2) scPair.nd rfl (Or.inl rfl)) (pgs_cons (pg_name (i := 3) scPair.nd rfl (Or.inl rfl)) pgs_nil)))
        (pss_one (ps_if (pw_and (pt_cmpR op_ne (pv 2) (pv 3) (nomark _)) (pw_and (pt_cmpR op_ne (pv 2) (pgl T.lost) (nomark _)) (pw_and1 (pt_cmpR op_ne (pv 3) (pgl T.lost) (nomark _))))).pt (pss_one (ps_ret (pgl T.unlike))) pss_nil)))
      (pss_one (ps_ret (pgl T.fit))))), ?_⟩
    refine ⟨_, rfl, _, rfl, a, b, l, m, rfl, ha, hb, fun kk hkk => ⟨_, rfl, ite2 (fun h0 => ?_) (fun h0 => ?_)⟩⟩
    · have h0 := hkk.mp h0
      have k := k H (Same.refl H)
      rw [Cm.pair_alike h0.1 h0.2] at k
      exact k
    have hna : ¬ (l = m ∧ Vh.LOST ∉ l) := fun z => h0 (hkk.mpr z)
    refine ⟨_, rfl, a, _, rfl, .inr (SqT.of ha), _, rfl, b, _, rfl, .inr (SqT.of hb), rfl, _, rfl, ite2 (fun hc => ?_) (fun hc => ?_)⟩
    · have z : ¬ l.length = m.length := fun z => by
        rw [List.length_map, List.length_map, z] at hc
        simp at hc
      have k := k H (Same.refl H)
      rw [Cm.pair_len z] at k
      exact k
    · have hlm : l.length = m.length := by
        rw [List.length_map, List.length_map] at hc
        have z := Bool.not_eq_true _ ▸ hc
        simp at z
        omega
      refine ⟨_, rfl, _, rfl, a, b, l.map nV, m.map nV, rfl, SqT.of ha, SqT.of hb, ?_⟩
      refine for_zipT (by rw [List.length_map, List.length_map]; exact hlm) (fun i σ H' => (∃ v1 v2, σ = [some (.ref a), some (.ref b), v1, v2]) ∧ Same H H' ∧ ((l.zip m).take i).all Cm.okPair = true) ⟨⟨_, _, rfl⟩, Same.refl H, rfl⟩
        (fun i σ H' _ ⟨_, s1, _⟩ => ⟨SqT.of (s1 _ _ ha), SqT.of (s1 _ _ hb)⟩) ?_ ?_
      · rintro i x y U σ H' hx hy ⟨⟨v1, v2, rfl⟩, s1, hall⟩ hU
        obtain ⟨p, hp, rfl⟩ := nV_of hx
        obtain ⟨q, hq, rfl⟩ := nV_of hy
        have s2 : Same H (upd H' U (.tup [nV p, nV q])) := s1.upd (s1.free hU)
        have hpq : (l.zip m)[i]? = some (p, q) := by rw [List.getElem?_zip_eq_some]; exact ⟨hp, hq⟩
        have go : Cm.okPair (p, q) = true → (∃ v1 v2, ([some (V.ref a), some (V.ref b), some (nV p), some (nV q)] : L2.St) = [some (.ref a), some (.ref b), v1, v2]) ∧ Same H (upd H' U (.tup [nV p, nV q])) ∧ ((l.zip m).take (i + 1)).all Cm.okPair = true := fun hok => by
          refine ⟨⟨_, _, rfl⟩, s2, ?_⟩
          rw [List.take_add_one, hpq, List.all_append, hall]
          simp [hok]
        refine ⟨U, _, rfl, SqT.of upd_same, rfl, _, _, rfl, _, _, rfl, rfl, ?_⟩
        refine ⟨_, rfl, _, rfl, rfl, _, rfl, ite2 (fun h1 => ?_) (fun h1 => ?_)⟩
        · refine ⟨_, rfl, rfl, _, rfl, ite2 (fun h2 => ?_) (fun h2 => ?_)⟩
          · refine ⟨_, rfl, rfl, _, rfl, ite2 (fun h3 => ?_) (fun h3 => ?_)⟩
            · have e1 : ¬ p = q := fun z => by rw [z] at h1; simp at h1
              have e2 : ¬ p = Vh.LOST := fun z => by rw [z] at h2; exact absurd h2 (by decide)
              have e3 : ¬ q = Vh.LOST := fun z => by rw [z] at h3; exact absurd h3 (by decide)
              have k := k _ s2
              rw [Cm.pair_else hna hlm, if_neg (fun z => ?_)] at k
              · exact k
              · have z2 := List.all_eq_true.mp z _ (List.mem_of_getElem? hpq)
                unfold Cm.okPair at z2
                simp [e1, e2, e3] at z2
            · refine go ?_
              have e3 : (q : Int) = 16777216 := by
                by_cases z : (q : Int) = 16777216
                · exact z
                · exact absurd (by rw [show decide (nV q = V.int 16777216) = false from Bool.eq_false_iff.mpr fun y => z ((dec_nV _ _).mp y)]; rfl) h3
              unfold Cm.okPair Vh.LOST
              have : q = 2 ^ 24 := by omega
              simp [this]
          · refine iteF (go ?_)
            have e3 : (p : Int) = 16777216 := by
              by_cases z : (p : Int) = 16777216
              · exact z
              · exact absurd (by rw [show decide (nV p = V.int 16777216) = false from Bool.eq_false_iff.mpr fun y => z ((dec_nV _ _).mp y)]; rfl) h2
            unfold Cm.okPair Vh.LOST
            have : p = 2 ^ 24 := by omega
            simp [this]
        · refine iteF (go ?_)
          have e3 : (p : Int) = (q : Int) := by
            by_cases z : (p : Int) = (q : Int)
            · exact z
            · exact absurd (by rw [show decide (nV p = nV q) = false from Bool.eq_false_iff.mpr fun y => z ((dec_nV _ _).mp y)]; rfl) h1
          unfold Cm.okPair
          have : p = q := by omega
          simp [this]
      · rintro σ H' ⟨⟨v1, v2, rfl⟩, s1, hall⟩
        have k := k _ s1
        rw [List.length_map] at hall
        rw [List.take_of_length_le (by rw [List.length_zip]; omega)] at hall
        rw [Cm.pair_else hna hlm, if_pos hall] at k
        exact k
end
end Co

set_option Elab.async false
set_option linter.all false
set_option maxRecDepth 100000
set_option maxHeartbeats 2000000
namespace Co
open PySem PySem.Spec PyProof.Rows L2
open PySem.W (Codec)
open Vh (Cell Letters pairCost leastCost)
section
variable {P : Program} {w : World} {K : PySem.W.Frag} {mg : Str → Option Value} {base : Heap}
/-! ### rows_refusal -/
theorem scRows : FnScope ["x", "y", "refused"] ["x", "y"] (defScope sRows) := ⟨rfl, rfl, rfl, by decide +kernel, rfl, by decide +kernel, by decide +kernel⟩
theorem ok_rows {f fR : Addr} {fd fdR : FuncData} (F : Fun K "rows_refusal" "rows_refusal" sRows f fd) (GR : FnOk P w K mg base CX0 3 fR fdR ["numbers"] (spRefusal K)) (uR : Use K mg "refusal" fR fdR ["numbers"]) :
    FnOk P w K mg base CX0 4 f fd ["x", "y"] (spRows K) := by
  refine F.ok scRows (fun vs H Q E h => ?_) (fun cdv A outer s H vs Q E hr h => ?_)
  · obtain ⟨a, b, xs, ys, rfl, _⟩ := h
    rfl
  · obtain ⟨a, b, xs, ys, rfl, hx, hy, lx, ly, k⟩ := h
    refine ⟨_, pss_cons (ps_set (i := 2) scRows.nd rfl (Or.inl rfl) (pe_call GR hr rfl uR.m uR.kp uR.b .nil pass0 (pa_cons (pv 0) pa_nil)))
      (pss_cons (ps_if (pt_cmpR op_lt (pv 2) pe_int (nomark _)) (pss_one (ps_ret (pv 2))) pss_nil)
      (pss_one (ps_ret (pe_call GR hr rfl uR.m uR.kp uR.b .nil pass0 (pa_cons (pv 1) pa_nil))))), ?_⟩
    refine ⟨_, rfl, a, xs, rfl, hx, lx, ?_⟩
    refine ⟨_, rfl, _, _, rfl, rfl, _, rfl, ite2 (fun hc => ?_) (fun hc => ?_)⟩
    · have hc : Cm.refusal xs < 0 := of_decide_eq_true hc
      rw [if_pos hc] at k
      exact ⟨_, rfl, k⟩
    · have hc : ¬ Cm.refusal xs < 0 := fun z => hc (decide_eq_true z)
      rw [if_neg hc] at k
      exact ⟨_, rfl, b, ys, rfl, hy, ly, k⟩
end
end Co

set_option Elab.async false
set_option linter.all false
set_option maxRecDepth 100000
set_option maxHeartbeats 2000000
namespace Co
open PySem PySem.Spec PyProof.Rows L2
open PySem.W (Codec)
open Vh (Cell Letters pairCost leastCost stepCost)
/-! ### places -/
def lV : Option Nat → V
  | none => .non
  | some s => nV s
def pf (i j : Nat) (l : Option Nat) : List (Str × V) := putF "last" (lV l) (putF "other_taken" (nV j) (putF "base_taken" (nV i) []))
theorem pf_base (i j : Nat) (l : Option Nat) : (pf i j l).lookup ("base_taken" : Str) = some (nV i) := by
  unfold pf
  rw [lookup_putF, if_neg (by decide +kernel), lookup_putF, if_neg (by decide +kernel), lookup_putF, if_pos rfl]
theorem pf_other (i j : Nat) (l : Option Nat) : (pf i j l).lookup ("other_taken" : Str) = some (nV j) := by
  unfold pf
  rw [lookup_putF, if_neg (by decide +kernel), lookup_putF, if_pos rfl]
theorem pf_last (i j : Nat) (l : Option Nat) : (pf i j l).lookup ("last" : Str) = some (lV l) := by
  unfold pf
  rw [lookup_putF, if_pos rfl]
def PlaceAt (C : Addr) (H : Hp) (a : Addr) (i j : Nat) (l : Option Nat) : Prop := ∃ dx, H a = some (.ins C dx (pf i j l))
theorem PlaceAt.same {C : Addr} {H H' : Hp} {a : Addr} {i j : Nat} {l : Option Nat} (s : Same H H') (h : PlaceAt C H a i j l) : PlaceAt C H' a i j l := by
  obtain ⟨dx, h⟩ := h
  exact ⟨dx, s _ _ h⟩
def takenX : List Int := [1, 1, 0, 1, 0, 1, 0]
def takenY : List Int := [1, 0, 1, 0, 1, 0, 1]
theorem takenX_get {s : Nat} (h : s < 7) : (takenX.map V.int)[s]? = some (nV (Cm.tx s)) := by
  rcases s with _ | _ | _ | _ | _ | _ | _ | s <;> first | rfl | omega
theorem takenY_get {s : Nat} (h : s < 7) : (takenY.map V.int)[s]? = some (nV (Cm.ty s)) := by
  rcases s with _ | _ | _ | _ | _ | _ | _ | s <;> first | rfl | omega
structure TxtP (K : PySem.W.Frag) (mg : Str → Option Value) (C tb to : Addr) : Prop where
  cl : Cls K C
  nB : NoAttr K C "base_taken"
  nO : NoAttr K C "other_taken"
  nL : NoAttr K C "last"
  mgC : mg "Place" = some (.ref C)
  pair : ∃ t, mg "PAIR" = some (.int 0 t)
  lostW : ∃ t, mg "LOST_WORD" = some (.int 1 t)
  spared : ∃ t, mg "SPARED_WORD" = some (.int 2 t)
  missing : ∃ t, mg "MISSING_WORD" = some (.int 3 t)
  added : ∃ t, mg "ADDED_WORD" = some (.int 4 t)
  bgap : ∃ t, mg "BASE_GAP" = some (.int 5 t)
  ogap : ∃ t, mg "OTHER_GAP" = some (.int 6 t)
  bt : mg "BASE_TAKEN" = some (.ref tb)
  btv : ∀ H : Hp, SqT K H tb (takenX.map V.int)
  ot : mg "OTHER_TAKEN" = some (.ref to)
  otv : ∀ H : Hp, SqT K H to (takenY.map V.int)
/-! ### the promises -/
def spInitP (C : Addr) : Sp := fun vs H Q _ => ∃ (p dx : Addr) (i j : Nat) (l : Option Nat), vs = [.ref p, nV i, nV j, lV l] ∧ H p = some (.ins C dx []) ∧ ∀ H' : Hp, H' p = some (.ins C dx (pf i j l)) → (∀ b o, H b = some o → b ≠ p → H' b = some o) → Q .non H'
def spBegin (C : Addr) : Sp := fun vs H Q _ => vs = [] ∧ ∀ (H' : Hp) (a : Addr), Same H H' → PlaceAt C H' a 0 0 none → Q (.ref a) H'
def spEnding (C : Addr) : Sp := fun vs H Q _ => ∃ (b o a : Addr) (x y : List Cell) (i j : Nat) (l : Option Nat), vs = [.ref b, .ref o, .ref a] ∧ CellsAt H b x ∧ CellsAt H o y ∧ PlaceAt C H a i j l ∧ ∀ k : Bool, (k = true ↔ i = x.length ∧ j = y.length) → Q (.bl k) H
def spBehO (C : Addr) : Sp := fun vs H Q _ => ∃ (a : Addr) (i j : Nat) (l : Option Nat), vs = [.ref a] ∧ PlaceAt C H a i j l ∧ ∀ k : Bool, (k = true ↔ Cm.bh l = .other) → Q (.bl k) H
def spBehB (C : Addr) : Sp := fun vs H Q _ => ∃ (a : Addr) (i j : Nat) (l : Option Nat), vs = [.ref a] ∧ PlaceAt C H a i j l ∧ ∀ k : Bool, (k = true ↔ Cm.bh l = .base) → Q (.bl k) H
def spIsWord : Sp := fun vs H Q _ => ∃ (a : Addr) (cs : List Cell) (i : Nat), vs = [.ref a, nV i] ∧ CellsAt H a cs ∧ ∀ k : Bool, (k = true ↔ Cm.IsW cs[i]?) → Q (.bl k) H
def spIsGap : Sp := fun vs H Q _ => ∃ (a : Addr) (cs : List Cell) (i : Nat), vs = [.ref a, nV i] ∧ CellsAt H a cs ∧ ∀ k : Bool, (k = true ↔ Cm.IsG cs[i]?) → Q (.bl k) H
def spMay (C : Addr) : Sp := fun vs H Q _ => ∃ (b o a : Addr) (x y : List Cell) (i j : Nat) (l : Option Nat) (s : Nat), vs = [.ref b, .ref o, .ref a, nV s] ∧ CellsAt H b x ∧ CellsAt H o y ∧ PlaceAt C H a i j l ∧
  ∀ k : Bool, (k = true ↔ (stepCost (Cm.bh l) x[i]? y[j]? s).isSome = true) → Q (.bl k) H
def spStepCost (C : Addr) : Sp := fun vs H Q _ => ∃ (b o a : Addr) (x y : List Cell) (i j : Nat) (l : Option Nat) (s c : Nat), vs = [.ref b, .ref o, .ref a, nV s] ∧ CellsAt H b x ∧ CellsAt H o y ∧ PlaceAt C H a i j l ∧
  stepCost (Cm.bh l) x[i]? y[j]? s = some c ∧ ∀ H' : Hp, Same H H' → Q (.int (c : Int)) H'
def spBehind (C : Addr) : Sp := fun vs H Q _ => ∃ (a : Addr) (i j : Nat) (l : Option Nat) (s : Nat), vs = [.ref a, nV s] ∧ PlaceAt C H a i j l ∧ s < 7 ∧ ∀ (H' : Hp) (p : Addr), Same H H' → PlaceAt C H' p (i + Cm.tx s) (j + Cm.ty s) (some s) → Q (.ref p) H'
section
variable {P : Program} {w : World} {K : PySem.W.Frag} {mg : Str → Option Value} {base : Heap}
/-- t[i] of a tuple -/
theorem pixT {X : Cx} {a b : Expr} {ta tb : TE} {pos : Pos} (ha : PE X a ta) (hb : PE X b tb) (hs : PlainIx b := by exact fun _ _ => rfl) : PE X (.Subscript a b pos) (tOp (rIxT X.K) ta tb) := pe_ix ix_tup ha hb hs
/-- an object of the top -/
theorem pgr {X : Cx} {x : Str} {a : Addr} {pos : Pos} (h : X.mg x = some (.ref a)) (hg : Gl X x := by rfl) (hd : (x == ("__debug__" : Str)) = false := by decide) : PE X (.Name x pos) (tC (.ref a)) := pe_glob hg h rfl hd
theorem dec_lV (l : Option Nat) (n : Nat) : (decide (lV l = V.int (n : Int)) = true) ↔ l = some n := by
  cases l with
  | none => simp [lV]
  | some s =>
    rw [show lV (some s) = nV s from rfl, dec_nV]
    simp
    omega
theorem scal_lV (l : Option Nat) (n : Int) : scal (lV l) (.int n) = true := by cases l <;> rfl
/-! ### Place -/
theorem scInitP : FnScope ["self", "base_taken", "other_taken", "last"] ["self", "base_taken", "other_taken", "last"] (defScope sInitP) := ⟨rfl, rfl, rfl, by decide +kernel, rfl, by decide +kernel, by decide +kernel⟩
theorem ok_initP {f C tb to : Addr} {fd : FuncData} (F : Fun K "__init__" "Place.__init__" sInitP f fd) (T : TxtP K mg C tb to) : FnOk P w K mg base CX0 1 f fd ["self", "base_taken", "other_taken", "last"] (spInitP C) := by
  refine F.ok scInitP (fun vs H Q E h => ?_) (fun cdv A outer s H vs Q E hr h => ?_)
  · obtain ⟨p, dx, i, j, l, rfl, _⟩ := h
    rfl
  · obtain ⟨p, dx, i, j, l, rfl, hp, k⟩ := h
    refine ⟨_, pss_cons (ps_fld (pv 0) (pv 1) rfl) (pss_cons (ps_fld (pv 0) (pv 2) rfl) (pss_one (ps_fld (pv 0) (pv 3) rfl))), ?_⟩
    refine ⟨_, rfl, _, rfl, p, C, dx, [], rfl, hp, T.cl, T.nB, (by show 0 < 1000; decide), ?_⟩
    refine ⟨_, rfl, _, rfl, p, C, dx, _, rfl, upd_same, T.cl, T.nO, (by show 1 < 1000; decide), ?_⟩
    refine ⟨_, rfl, _, rfl, p, C, dx, _, rfl, upd_same, T.cl, T.nL, (by show 2 < 1000; decide), ?_⟩
    exact k _ upd_same fun b o e hb => by rw [upd_ne hb, upd_ne hb, upd_ne hb]; exact e
theorem make_place {C : Addr} {H H1 : Hp} {i j : Nat} {l : Option Nat} {Q : VK} (s : Same H H1) (k : ∀ (H' : Hp) (a : Addr), Same H H' → PlaceAt C H' a i j l → Q (.ref a) H') :
    ∀ x dx, H1 x = none → H1 dx = none → dx ≠ x → spInitP C [.ref x, nV i, nV j, lV l] (upd (upd H1 dx (.own x)) x (.ins C dx [])) (fun v H2 => v = .non ∧ Q (.ref x) H2) E0 := fun x dx nx ndx _ =>
  ⟨x, dx, i, j, l, rfl, upd_same, fun H' e kp => ⟨rfl, k H' x (s.trans (Same.made nx ndx kp)) ⟨dx, e⟩⟩⟩
theorem scBegin : FnScope [] [] (defScope sBegin) := ⟨rfl, rfl, rfl, by decide +kernel, rfl, by decide +kernel, by decide +kernel⟩
theorem ok_begin {f C tb to fI : Addr} {fd fdI : FuncData} (F : Fun K "beginning" "beginning" sBegin f fd) (T : TxtP K mg C tb to) (M : Mk K C fI) (GI : FnOk P w K mg base CX0 1 fI fdI ["self", "base_taken", "other_taken", "last"] (spInitP C)) (bI : Binds K fdI ["self", "base_taken", "other_taken", "last"] []) :
    FnOk P w K mg base CX0 3 f fd [] (spBegin C) := by
  refine F.ok scBegin (fun vs H Q E h => ?_) (fun cdv A outer s H vs Q E hr h => ?_)
  · obtain ⟨rfl, _⟩ := h
    rfl
  · obtain ⟨rfl, k⟩ := h
    refine ⟨_, pss_one (ps_ret (pe_make M GI hr rfl T.mgC bI .nil pass0 (pa_cons pe_int (pa_cons pe_int (pa_cons pe_non pa_nil))))), ?_⟩
    exact make_place (i := 0) (j := 0) (l := none) (Same.refl H) k
/-! ### is_ending, is_behind_other_gap, is_behind_base_gap -/
theorem scEnding : FnScope ["base", "other", "place"] ["base", "other", "place"] (defScope sEnding) := ⟨rfl, rfl, rfl, by decide +kernel, rfl, by decide +kernel, by decide +kernel⟩
theorem ok_ending {f C tb to : Addr} {fd : FuncData} (F : Fun K "is_ending" "is_ending" sEnding f fd) (T : Txt K mg) (TP : TxtP K mg C tb to) : FnOk P w K mg base CX0 1 f fd ["base", "other", "place"] (spEnding C) := by
  refine F.ok scEnding (fun vs H Q E h => ?_) (fun cdv A outer s H vs Q E hr h => ?_)
  · obtain ⟨b, o, a, x, y, i, j, l, rfl, _⟩ := h
    rfl
  · obtain ⟨b, o, a, x, y, i, j, l, rfl, ⟨bv, hb, hbl, _⟩, ⟨ov, ho, hol, _⟩, ⟨dx, ha⟩, k⟩ := h
    refine ⟨_, pss_one (ps_ret (pe_and (pe_cmpR op_eq (pe_fld (pv 2) rfl) (plen T.len (pv 0)) (nomark _)) (pe_one (pe_cmpR op_eq (pe_fld (pv 2) rfl) (plen T.len (pv 1)) (nomark _))))), ?_⟩
    refine ⟨_, rfl, a, C, dx, _, _, rfl, ha, TP.cl, TP.nB, pf_base _ _ _, _, rfl, b, _, rfl, .inl (SqL.of hb), rfl, _, rfl, ite2 (fun h1 => ?_) (fun h1 => ?_)⟩
    · have h1 : (i : Int) = (bv.length : Int) := (dec_nV _ _).mp h1
      refine ⟨_, rfl, a, C, dx, _, _, rfl, ha, TP.cl, TP.nO, pf_other _ _ _, _, rfl, o, _, rfl, .inl (SqL.of ho), rfl, ?_⟩
      refine k _ ?_
      rw [dec_nV]
      omega
    · have h1 : ¬ (i : Int) = (bv.length : Int) := fun z => h1 ((dec_nV _ _).mpr z)
      refine k _ ?_
      simp
      omega
theorem scBehO : FnScope ["place"] ["place"] (defScope sBehO) := ⟨rfl, rfl, rfl, by decide +kernel, rfl, by decide +kernel, by decide +kernel⟩
theorem ok_behO {f C tb to : Addr} {fd : FuncData} (F : Fun K "is_behind_other_gap" "is_behind_other_gap" sBehO f fd) (T : TxtP K mg C tb to) : FnOk P w K mg base CX0 1 f fd ["place"] (spBehO C) := by
  refine F.ok scBehO (fun vs H Q E h => ?_) (fun cdv A outer s H vs Q E hr h => ?_)
  · obtain ⟨a, i, j, l, rfl, _⟩ := h
    rfl
  · obtain ⟨a, i, j, l, rfl, ⟨dx, ha⟩, k⟩ := h
    refine ⟨_, pss_one (ps_ret (pe_or (pe_cmpR op_eq (pe_fld (pv 0) rfl) (pgl T.ogap) (nomark _)) (pe_one (pe_cmpR op_eq (pe_fld (pv 0) rfl) (pgl T.lostW) (nomark _))))), ?_⟩
    refine ⟨_, rfl, a, C, dx, _, _, rfl, ha, T.cl, T.nL, pf_last _ _ _, scal_lV _ _, _, rfl, ite2 (fun h1 => ?_) (fun h1 => ?_)⟩
    · have h1 : l = some 6 := (dec_lV l 6).mp h1
      refine k _ ?_
      rw [Cm.beh_other]
      simp [h1]
    · have h1 : ¬ l = some 6 := fun z => h1 ((dec_lV l 6).mpr z)
      refine ⟨_, rfl, a, C, dx, _, _, rfl, ha, T.cl, T.nL, pf_last _ _ _, scal_lV _ _, ?_⟩
      refine k _ ?_
      rw [Cm.beh_other]
      refine (dec_lV l 1).trans ?_
      simp [h1]
theorem scBehB : FnScope ["place"] ["place"] (defScope sBehB) := ⟨rfl, rfl, rfl, by decide +kernel, rfl, by decide +kernel, by decide +kernel⟩
theorem ok_behB {f C tb to : Addr} {fd : FuncData} (F : Fun K "is_behind_base_gap" "is_behind_base_gap" sBehB f fd) (T : TxtP K mg C tb to) : FnOk P w K mg base CX0 1 f fd ["place"] (spBehB C) := by
  refine F.ok scBehB (fun vs H Q E h => ?_) (fun cdv A outer s H vs Q E hr h => ?_)
  · obtain ⟨a, i, j, l, rfl, _⟩ := h
    rfl
  · obtain ⟨a, i, j, l, rfl, ⟨dx, ha⟩, k⟩ := h
    refine ⟨_, pss_one (ps_ret (pe_or (pe_cmpR op_eq (pe_fld (pv 0) rfl) (pgl T.bgap) (nomark _)) (pe_one (pe_cmpR op_eq (pe_fld (pv 0) rfl) (pgl T.spared) (nomark _))))), ?_⟩
    refine ⟨_, rfl, a, C, dx, _, _, rfl, ha, T.cl, T.nL, pf_last _ _ _, scal_lV _ _, _, rfl, ite2 (fun h1 => ?_) (fun h1 => ?_)⟩
    · have h1 : l = some 5 := (dec_lV l 5).mp h1
      refine k _ ?_
      rw [Cm.beh_base]
      simp [h1]
    · have h1 : ¬ l = some 5 := fun z => h1 ((dec_lV l 5).mpr z)
      refine ⟨_, rfl, a, C, dx, _, _, rfl, ha, T.cl, T.nL, pf_last _ _ _, scal_lV _ _, ?_⟩
      refine k _ ?_
      rw [Cm.beh_base]
      refine (dec_lV l 2).trans ?_
      simp [h1]
/-! ### is_word, is_gap -/
theorem scIsWord : FnScope ["cells", "number"] ["cells", "number"] (defScope sIsWord) := ⟨rfl, rfl, rfl, by decide +kernel, rfl, by decide +kernel, by decide +kernel⟩
theorem ok_isWord {f : Addr} {fd : FuncData} (F : Fun K "is_word" "is_word" sIsWord f fd) (T : Txt K mg) : FnOk P w K mg base CX0 1 f fd ["cells", "number"] spIsWord := by
  refine F.ok scIsWord (fun vs H Q E h => ?_) (fun cdv A outer s H vs Q E hr h => ?_)
  · obtain ⟨a, cs, i, rfl, _⟩ := h
    rfl
  · obtain ⟨a, cs, i, rfl, ⟨vs, ha, hl, hc⟩, k⟩ := h
    refine ⟨_, pss_one (ps_ret (pe_and (pe_cmpR op_lt (pv 1) (plen T.len (pv 0)) (nomark _)) (pe_one (pe_cmp (pc_notN (pix (pv 0) (pv 1))))))), ?_⟩
    refine ⟨_, rfl, _, rfl, a, _, rfl, .inl (SqL.of ha), _, _, rfl, rfl, _, rfl, ite2 (fun h1 => ?_) (fun h1 => ?_)⟩
    · have h1 : (i : Int) < (vs.length : Int) := of_decide_eq_true h1
      have hi : i < cs.length := by omega
      rcases Cm.at_cases cs i hi with e | ⟨m, e⟩
      · obtain ⟨v, e1, rfl⟩ := hc i _ e
        refine ⟨_, rfl, _, rfl, a, _, _, _, rfl, rfl, SqL.of ha, atI_nat e1, ?_⟩
        refine k _ ?_
        rw [e]
        simp [Cm.IsW]
      · obtain ⟨v, e1, t, rfl, _⟩ := hc i _ e
        refine ⟨_, rfl, _, rfl, a, _, _, _, rfl, rfl, SqL.of ha, atI_nat e1, ?_⟩
        refine k _ ?_
        rw [e]
        simp [Cm.IsW]
    · have h1 : ¬ (i : Int) < (vs.length : Int) := fun z => h1 (decide_eq_true z)
      refine k _ ?_
      rw [List.getElem?_eq_none (by omega)]
      simp [Cm.IsW]
theorem scIsGap : FnScope ["cells", "number"] ["cells", "number"] (defScope sIsGap) := ⟨rfl, rfl, rfl, by decide +kernel, rfl, by decide +kernel, by decide +kernel⟩
theorem ok_isGap {f : Addr} {fd : FuncData} (F : Fun K "is_gap" "is_gap" sIsGap f fd) (T : Txt K mg) : FnOk P w K mg base CX0 1 f fd ["cells", "number"] spIsGap := by
  refine F.ok scIsGap (fun vs H Q E h => ?_) (fun cdv A outer s H vs Q E hr h => ?_)
  · obtain ⟨a, cs, i, rfl, _⟩ := h
    rfl
  · obtain ⟨a, cs, i, rfl, ⟨vs, ha, hl, hc⟩, k⟩ := h
    refine ⟨_, pss_one (ps_ret (pe_and (pe_cmpR op_lt (pv 1) (plen T.len (pv 0)) (nomark _)) (pe_one (pe_cmp (pc_isN (pix (pv 0) (pv 1))))))), ?_⟩
    refine ⟨_, rfl, _, rfl, a, _, rfl, .inl (SqL.of ha), _, _, rfl, rfl, _, rfl, ite2 (fun h1 => ?_) (fun h1 => ?_)⟩
    · have h1 : (i : Int) < (vs.length : Int) := of_decide_eq_true h1
      have hi : i < cs.length := by omega
      rcases Cm.at_cases cs i hi with e | ⟨m, e⟩
      · obtain ⟨v, e1, rfl⟩ := hc i _ e
        refine ⟨_, rfl, _, rfl, a, _, _, _, rfl, rfl, SqL.of ha, atI_nat e1, ?_⟩
        refine k _ ?_
        rw [e]
        simp [Cm.IsG]
      · obtain ⟨v, e1, t, rfl, _⟩ := hc i _ e
        refine ⟨_, rfl, _, rfl, a, _, _, _, rfl, rfl, SqL.of ha, atI_nat e1, ?_⟩
        refine k _ ?_
        rw [e]
        simp [Cm.IsG]
    · have h1 : ¬ (i : Int) < (vs.length : Int) := fun z => h1 (decide_eq_true z)
      refine k _ ?_
      rw [List.getElem?_eq_none (by omega)]
      simp [Cm.IsG]
end
end Co

set_option Elab.async false
set_option linter.all false
set_option maxRecDepth 100000
set_option maxHeartbeats 2000000
namespace Co
open PySem PySem.Spec PyProof.Rows L2
open PySem.W (Codec)
open Vh (Cell Letters pairCost leastCost stepCost)
section
variable {P : Program} {w : World} {K : PySem.W.Frag} {mg : Str → Option Value} {base : Heap}
/-! ### may_stand -/
theorem dec_step {s : Nat} {n : Nat} : (decide (nV s = V.int (n : Int)) = true) ↔ s = n := by
  rw [dec_nV]
  omega
theorem scMay : FnScope ["base", "other", "place", "step"] ["base", "other", "place", "step"] (defScope sMay) := ⟨rfl, rfl, rfl, by decide +kernel, rfl, by decide +kernel, by decide +kernel⟩
theorem ok_may {f C tb to fW fG fO fB : Addr} {fd fdW fdG fdO fdB : FuncData} (F : Fun K "may_stand" "may_stand" sMay f fd) (T : TxtP K mg C tb to)
    (GW : FnOk P w K mg base CX0 1 fW fdW ["cells", "number"] spIsWord) (uW : Use K mg "is_word" fW fdW ["cells", "number"]) (GG : FnOk P w K mg base CX0 1 fG fdG ["cells", "number"] spIsGap) (uG : Use K mg "is_gap" fG fdG ["cells", "number"])
    (GO : FnOk P w K mg base CX0 1 fO fdO ["place"] (spBehO C)) (uO : Use K mg "is_behind_other_gap" fO fdO ["place"]) (GB : FnOk P w K mg base CX0 1 fB fdB ["place"] (spBehB C)) (uB : Use K mg "is_behind_base_gap" fB fdB ["place"]) :
    FnOk P w K mg base CX0 2 f fd ["base", "other", "place", "step"] (spMay C) := by
  refine F.ok scMay (fun vs H Q E h => ?_) (fun cdv A outer s H vs Q E hr h => ?_)
  · obtain ⟨b, o, a, x, y, i, j, l, s, rfl, _⟩ := h
    rfl
  · obtain ⟨b, o, a, x, y, i, j, l, st, rfl, hb, ho, hp, k⟩ := h
    obtain ⟨dx, ha⟩ := id hp
    refine ⟨_, pss_cons (ps_if (pt_cmpR op_eq (pv 3) (pgl T.pair) (nomark _)) (pss_one (ps_ret (pe_and (pe_call GW hr rfl uW.m uW.kp uW.b .nil pass0 (pa_cons (pv 0) (pa_cons (pe_fld (pv 2) rfl) pa_nil))) (pe_one (pe_call GW hr rfl uW.m uW.kp uW.b .nil pass0 (pa_cons (pv 1) (pa_cons (pe_fld (pv 2) rfl) pa_nil))))))) pss_nil)
      (pss_cons (ps_if (pt_cmpR op_eq (pv 3) (pgl T.lostW) (nomark _)) (pss_one (ps_ret (pe_and (pe_call GW hr rfl uW.m uW.kp uW.b .nil pass0 (pa_cons (pv 0) (pa_cons (pe_fld (pv 2) rfl) pa_nil))) (pe_one (pe_call GO hr rfl uO.m uO.kp uO.b .nil pass0 (pa_cons (pv 2) pa_nil)))))) pss_nil)
      (pss_cons (ps_if (pt_cmpR op_eq (pv 3) (pgl T.spared) (nomark _)) (pss_one (ps_ret (pe_and (pe_call GW hr rfl uW.m uW.kp uW.b .nil pass0 (pa_cons (pv 1) (pa_cons (pe_fld (pv 2) rfl) pa_nil))) (pe_one (pe_call GB hr rfl uB.m uB.kp uB.b .nil pass0 (pa_cons (pv 2) pa_nil)))))) pss_nil)
      (pss_cons (ps_if (pt_cmpR op_eq (pv 3) (pgl T.missing) (nomark _)) (pss_one (ps_ret (pe_call GW hr rfl uW.m uW.kp uW.b .nil pass0 (pa_cons (pv 0) (pa_cons (pe_fld (pv 2) rfl) pa_nil))))) pss_nil)
      (pss_cons (ps_if (pt_cmpR op_eq (pv 3) (pgl T.added) (nomark _)) (pss_one (ps_ret (pe_call GW hr rfl uW.m uW.kp uW.b .nil pass0 (pa_cons (pv 1) (pa_cons (pe_fld (pv 2) rfl) pa_nil))))) pss_nil)
      (pss_cons (ps_if (pt_cmpR op_eq (pv 3) (pgl T.bgap) (nomark _)) (pss_one (ps_ret (pe_call GG hr rfl uG.m uG.kp uG.b .nil pass0 (pa_cons (pv 0) (pa_cons (pe_fld (pv 2) rfl) pa_nil))))) pss_nil)
      (pss_cons (ps_if (pt_cmpR op_eq (pv 3) (pgl T.ogap) (nomark _)) (pss_one (ps_ret (pe_call GG hr rfl uG.m uG.kp uG.b .nil pass0 (pa_cons (pv 1) (pa_cons (pe_fld (pv 2) rfl) pa_nil))))) pss_nil)
      (pss_one (ps_ret pe_bl)))))))), ?_⟩
    refine ⟨_, rfl, rfl, _, rfl, ite2 (fun h0 => ?_) (fun h0 => ?_)⟩
    · have e : st = 0 := (dec_step (n := 0)).mp h0
      subst e
      refine ⟨_, rfl, _, rfl, a, C, dx, _, _, rfl, ha, T.cl, T.nB, pf_base _ _ _, b, x, i, rfl, hb, fun k1 e1 => ?_⟩
      refine ⟨_, rfl, ite2 (fun c1 => ?_) (fun c1 => ?_)⟩
      · refine ⟨_, rfl, _, rfl, a, C, dx, _, _, rfl, ha, T.cl, T.nO, pf_other _ _ _, o, y, j, rfl, ho, fun k2 e2 => k k2 ?_⟩
        rw [Cm.may0, e2]
        simp [e1.mp c1]
      · refine k false ?_
        rw [Cm.may0]
        simp
        intro z
        exact absurd (e1.mpr z) c1
    have n0 : st ≠ 0 := fun z => h0 ((dec_step (n := 0)).mpr z)
    refine ⟨_, rfl, rfl, _, rfl, ite2 (fun h1 => ?_) (fun h1 => ?_)⟩
    · have e : st = 1 := (dec_step (n := 1)).mp h1
      subst e
      refine ⟨_, rfl, _, rfl, a, C, dx, _, _, rfl, ha, T.cl, T.nB, pf_base _ _ _, b, x, i, rfl, hb, fun k1 e1 => ?_⟩
      refine ⟨_, rfl, ite2 (fun c1 => ?_) (fun c1 => ?_)⟩
      · refine ⟨_, rfl, a, i, j, l, rfl, hp, fun k2 e2 => k k2 ?_⟩
        rw [Cm.may1, e2]
        simp [e1.mp c1]
      · refine k false ?_
        rw [Cm.may1]
        simp
        intro z
        exact absurd (e1.mpr z) c1
    have n1 : st ≠ 1 := fun z => h1 ((dec_step (n := 1)).mpr z)
    refine ⟨_, rfl, rfl, _, rfl, ite2 (fun h2 => ?_) (fun h2 => ?_)⟩
    · have e : st = 2 := (dec_step (n := 2)).mp h2
      subst e
      refine ⟨_, rfl, _, rfl, a, C, dx, _, _, rfl, ha, T.cl, T.nO, pf_other _ _ _, o, y, j, rfl, ho, fun k1 e1 => ?_⟩
      refine ⟨_, rfl, ite2 (fun c1 => ?_) (fun c1 => ?_)⟩
      · refine ⟨_, rfl, a, i, j, l, rfl, hp, fun k2 e2 => k k2 ?_⟩
        rw [Cm.may2, e2]
        simp [e1.mp c1]
      · refine k false ?_
        rw [Cm.may2]
        simp
        intro z
        exact absurd (e1.mpr z) c1
    have n2 : st ≠ 2 := fun z => h2 ((dec_step (n := 2)).mpr z)
    refine ⟨_, rfl, rfl, _, rfl, ite2 (fun h3 => ?_) (fun h3 => ?_)⟩
    · have e : st = 3 := (dec_step (n := 3)).mp h3
      subst e
      refine ⟨_, rfl, _, rfl, a, C, dx, _, _, rfl, ha, T.cl, T.nB, pf_base _ _ _, b, x, i, rfl, hb, fun k1 e1 => k k1 ?_⟩
      rw [Cm.may3, e1]
    have n3 : st ≠ 3 := fun z => h3 ((dec_step (n := 3)).mpr z)
    refine ⟨_, rfl, rfl, _, rfl, ite2 (fun h4 => ?_) (fun h4 => ?_)⟩
    · have e : st = 4 := (dec_step (n := 4)).mp h4
      subst e
      refine ⟨_, rfl, _, rfl, a, C, dx, _, _, rfl, ha, T.cl, T.nO, pf_other _ _ _, o, y, j, rfl, ho, fun k1 e1 => k k1 ?_⟩
      rw [Cm.may4, e1]
    have n4 : st ≠ 4 := fun z => h4 ((dec_step (n := 4)).mpr z)
    refine ⟨_, rfl, rfl, _, rfl, ite2 (fun h5 => ?_) (fun h5 => ?_)⟩
    · have e : st = 5 := (dec_step (n := 5)).mp h5
      subst e
      refine ⟨_, rfl, _, rfl, a, C, dx, _, _, rfl, ha, T.cl, T.nB, pf_base _ _ _, b, x, i, rfl, hb, fun k1 e1 => k k1 ?_⟩
      rw [Cm.may5, e1]
    have n5 : st ≠ 5 := fun z => h5 ((dec_step (n := 5)).mpr z)
    refine ⟨_, rfl, rfl, _, rfl, ite2 (fun h6 => ?_) (fun h6 => ?_)⟩
    · have e : st = 6 := (dec_step (n := 6)).mp h6
      subst e
      refine ⟨_, rfl, _, rfl, a, C, dx, _, _, rfl, ha, T.cl, T.nO, pf_other _ _ _, o, y, j, rfl, ho, fun k1 e1 => k k1 ?_⟩
      rw [Cm.may6, e1]
    have n6 : st ≠ 6 := fun z => h6 ((dec_step (n := 6)).mpr z)
    refine k false ?_
    rw [Cm.may7 _ _ _ st (by omega)]
    simp
/-! ### step_cost, place_behind -/
theorem scStepCost : FnScope ["base", "other", "place", "step"] ["base", "other", "place", "step"] (defScope sStepCost) := ⟨rfl, rfl, rfl, by decide +kernel, rfl, by decide +kernel, by decide +kernel⟩
theorem ok_stepCost {f C tb to fP : Addr} {fd fdP : FuncData} (F : Fun K "step_cost" "step_cost" sStepCost f fd) (T : Txt K mg) (TP : TxtP K mg C tb to)
    (GP : FnOk P w K mg base CX0 2 fP fdP ["word", "other"] spPair) (uP : Use K mg "pair_cost" fP fdP ["word", "other"]) :
    FnOk P w K mg base CX0 3 f fd ["base", "other", "place", "step"] (spStepCost C) := by
  refine F.ok scStepCost (fun vs H Q E h => ?_) (fun cdv A outer s H vs Q E hr h => ?_)
  · obtain ⟨b, o, a, x, y, i, j, l, s, c, rfl, _⟩ := h
    rfl
  · obtain ⟨b, o, a, x, y, i, j, l, st, c, rfl, ⟨bv, hb, hbl, hbc⟩, ⟨ov, ho, hol, hoc⟩, ⟨dx, ha⟩, hc, k⟩ := h
    refine ⟨_, pss_cons (ps_if (pt_cmpR op_eq (pv 3) (pgl TP.pair) (nomark _)) (pss_one (ps_ret (pe_call GP hr rfl uP.m uP.kp uP.b .nil pass0 (pa_cons (pix (pv 0) (pe_fld (pv 2) rfl)) (pa_cons (pix (pv 1) (pe_fld (pv 2) rfl)) pa_nil))))) pss_nil)
      (pss_cons (ps_if (pw_or (pt_cmpR op_eq (pv 3) (pgl TP.missing) (nomark _)) (pw_or1 (pt_cmpR op_eq (pv 3) (pgl TP.added) (nomark _)))).pt (pss_one (ps_ret (pgl T.alone))) pss_nil)
      (pss_one (ps_ret pe_int))), ?_⟩
    refine ⟨_, rfl, rfl, _, rfl, ite2 (fun h0 => ?_) (fun h0 => ?_)⟩
    · have e : st = 0 := (dec_step (n := 0)).mp h0
      subst e
      obtain ⟨lw, m, ex, ey, ec⟩ := Cm.cost0 hc
      obtain ⟨v1, q1, t1, rfl, r1⟩ := hbc i _ ex
      obtain ⟨v2, q2, t2, rfl, r2⟩ := hoc j _ ey
      refine ⟨_, rfl, _, rfl, a, C, dx, _, _, rfl, ha, TP.cl, TP.nB, pf_base _ _ _, b, _, _, _, rfl, rfl, SqL.of hb, atI_nat q1, ?_⟩
      refine ⟨_, rfl, _, rfl, a, C, dx, _, _, rfl, ha, TP.cl, TP.nO, pf_other _ _ _, o, _, _, _, rfl, rfl, SqL.of ho, atI_nat q2, ?_⟩
      refine ⟨t1, t2, lw, m, rfl, r1, r2, fun H' s' => ?_⟩
      rw [← ec]
      exact k H' s'
    have n0 : st ≠ 0 := fun z => h0 ((dec_step (n := 0)).mpr z)
    refine ⟨_, rfl, rfl, _, rfl, ite2 (fun h3 => ?_) (fun h3 => ?_)⟩
    · have e : st = 3 := (dec_step (n := 3)).mp h3
      have z := k H (Same.refl H)
      rw [Cm.cost34 hc (.inl e)] at z
      exact iteT z
    have n3 : st ≠ 3 := fun z => h3 ((dec_step (n := 3)).mpr z)
    refine ⟨_, rfl, rfl, _, rfl, ite2 (fun h4 => ?_) (fun h4 => ?_)⟩
    · have e : st = 4 := (dec_step (n := 4)).mp h4
      have z := k H (Same.refl H)
      rw [Cm.cost34 hc (.inr e)] at z
      exact z
    have n4 : st ≠ 4 := fun z => h4 ((dec_step (n := 4)).mpr z)
    have z := k H (Same.refl H)
    rw [Cm.costE hc n0 n3 n4] at z
    exact z
theorem scBehind : FnScope ["place", "step"] ["place", "step"] (defScope sBehind) := ⟨rfl, rfl, rfl, by decide +kernel, rfl, by decide +kernel, by decide +kernel⟩
theorem ok_behind {f C tb to fI : Addr} {fd fdI : FuncData} (F : Fun K "place_behind" "place_behind" sBehind f fd) (T : TxtP K mg C tb to) (M : Mk K C fI) (GI : FnOk P w K mg base CX0 1 fI fdI ["self", "base_taken", "other_taken", "last"] (spInitP C)) (bI : Binds K fdI ["self", "base_taken", "other_taken", "last"] []) :
    FnOk P w K mg base CX0 3 f fd ["place", "step"] (spBehind C) := by
  refine F.ok scBehind (fun vs H Q E h => ?_) (fun cdv A outer s H vs Q E hr h => ?_)
  · obtain ⟨a, i, j, l, s, rfl, _⟩ := h
    rfl
  · obtain ⟨a, i, j, l, st, rfl, ⟨dx, ha⟩, hs, k⟩ := h
    refine ⟨_, pss_one (ps_ret (pe_make M GI hr rfl T.mgC bI .nil pass0 (pa_cons (pe_op op_add (pe_fld (pv 0) rfl) (pixT (pgr T.bt) (pv 1))) (pa_cons (pe_op op_add (pe_fld (pv 0) rfl) (pixT (pgr T.ot) (pv 1))) (pa_cons (pv 1) pa_nil))))), ?_⟩
    refine ⟨_, rfl, a, C, dx, _, _, rfl, ha, T.cl, T.nB, pf_base _ _ _, _, rfl, tb, _, _, _, rfl, rfl, T.btv H, atI_nat (takenX_get hs), _, _, rfl, rfl, ?_⟩
    refine ⟨_, rfl, a, C, dx, _, _, rfl, ha, T.cl, T.nO, pf_other _ _ _, _, rfl, to, _, _, _, rfl, rfl, T.otv H, atI_nat (takenY_get hs), _, _, rfl, rfl, ?_⟩
    refine ⟨_, rfl, ?_⟩
    exact make_place (i := i + Cm.tx st) (j := j + Cm.ty st) (l := some st) (Same.refl H) k
end
end Co

set_option Elab.async false
set_option linter.all false
set_option maxRecDepth 100000
set_option maxHeartbeats 2000000
namespace Co
open PySem PySem.Spec PyProof.Rows L2
open PySem.W (Codec)
open Vh (Cell Letters pairCost leastCost stepCost judged)
def spStepsCost (K : PySem.W.Frag) : Sp := fun vs H Q _ => ∃ (b o t : Addr) (x y : List Cell) (s : List Nat), vs = [.ref b, .ref o, .ref t] ∧ CellsAt H b x ∧ CellsAt H o y ∧ SqL K H t (s.map nV) ∧ s.length ≤ 3000 ∧
  ∀ H' : Hp, Same H H' → Q (.int (Cm.dueN (judged .plain x y s))) H'
section
variable {P : Program} {w : World} {K : PySem.W.Frag} {mg : Str → Option Value} {base : Heap}
/-! ### steps_cost -/
theorem scStepsCost : FnScope ["base", "other", "told", "place", "total", "step"] ["base", "other", "told"] (defScope sStepsCost) := ⟨rfl, rfl, rfl, by decide +kernel, rfl, by decide +kernel, by decide +kernel⟩
theorem ok_stepsCost {f C tb to fB fM fS fN fE : Addr} {fd fdB fdM fdS fdN fdE : FuncData} (F : Fun K "steps_cost" "steps_cost" sStepsCost f fd) (T : TxtP K mg C tb to) (noC : ∃ t, mg "NO_COLLATION" = some (.int (-6) t))
    (GB : FnOk P w K mg base CX0 3 fB fdB [] (spBegin C)) (uB : Use K mg "beginning" fB fdB [])
    (GM : FnOk P w K mg base CX0 2 fM fdM ["base", "other", "place", "step"] (spMay C)) (uM : Use K mg "may_stand" fM fdM ["base", "other", "place", "step"])
    (GS : FnOk P w K mg base CX0 3 fS fdS ["base", "other", "place", "step"] (spStepCost C)) (uS : Use K mg "step_cost" fS fdS ["base", "other", "place", "step"])
    (GN : FnOk P w K mg base CX0 3 fN fdN ["place", "step"] (spBehind C)) (uN : Use K mg "place_behind" fN fdN ["place", "step"])
    (GE : FnOk P w K mg base CX0 1 fE fdE ["base", "other", "place"] (spEnding C)) (uE : Use K mg "is_ending" fE fdE ["base", "other", "place"]) :
    FnOk P w K mg base CX0 4 f fd ["base", "other", "told"] (spStepsCost K) := by
  refine F.ok scStepsCost (fun vs H Q E h => ?_) (fun cdv A outer s H vs Q E hr h => ?_)
  · obtain ⟨b, o, t, x, y, st, rfl, _⟩ := h
    rfl
  · obtain ⟨b, o, t, x, y, st, rfl, hb, ho, ht, hl, k⟩ := h
    have hr2 : Room 2 _ := hr.mono (by decide)
    have hr1 : Room 1 _ := hr.mono (by decide)
    refine ⟨_, pss_cons (ps_set (i := 3) scStepsCost.nd rfl (Or.inl rfl) (pe_call0 GB hr rfl uB.m uB.kp uB.b .nil pass0))
      (pss_cons (ps_set (i := 4) scStepsCost.nd rfl (Or.inl rfl) pe_int)
      (pss_cons (ps_for PassesOwn.never rfl (pi_list (pv 2)) (pg_name (i := 5) scStepsCost.nd rfl (Or.inl rfl))
        (pss_cons (ps_if (pt_not (pt_val (pe_call GM hr2 rfl uM.m uM.kp uM.b .nil pass0 (pa_cons (pv 0) (pa_cons (pv 1) (pa_cons (pv 3) (pa_cons (pv 5) pa_nil))))))) (pss_one (ps_ret (pgl noC))) pss_nil)
        (pss_cons (ps_aug (i := 4) scStepsCost.nd rfl (Or.inl rfl) (pe_call GS hr rfl uS.m uS.kp uS.b .nil pass0 (pa_cons (pv 0) (pa_cons (pv 1) (pa_cons (pv 3) (pa_cons (pv 5) pa_nil))))) ip_add)
        (pss_one (ps_set (i := 3) scStepsCost.nd rfl (Or.inl rfl) (pe_call GN hr rfl uN.m uN.kp uN.b .nil pass0 (pa_cons (pv 3) (pa_cons (pv 5) pa_nil))))))))
      (pss_cons (ps_if (pt_not (pt_val (pe_call GE hr1 rfl uE.m uE.kp uE.b .nil pass0 (pa_cons (pv 0) (pa_cons (pv 1) (pa_cons (pv 3) pa_nil)))))) (pss_one (ps_ret (pgl noC))) pss_nil)
      (pss_one (ps_ret (pv 4)))))), ?_⟩
    refine ⟨rfl, fun H1 a1 s1 hp1 => ?_⟩
    refine ⟨_, rfl, t, rfl, ⟨_, s1.seq ht⟩, ?_⟩
    refine for_list (K := K) (a := t) (xs := st.map nV) (fun n σ H' => ∃ (v : Option V) (a : Addr) (i j c : Nat) (l : Option Nat), σ = [some (.ref b), some (.ref o), some (.ref t), some (.ref a), some (nV c), v] ∧ Same H H' ∧ PlaceAt C H' a i j l ∧ i ≤ x.length ∧ j ≤ y.length ∧
        judged .plain x y st = (judged (Cm.bh l) (x.drop i) (y.drop j) (st.drop n)).map (c + ·))
      ⟨_, a1, 0, 0, 0, none, rfl, s1, hp1, Nat.zero_le _, Nat.zero_le _, ?_⟩ (fun n σ H' _ ⟨_, _, _, _, _, _, _, s2, _⟩ => s2.seq ht) ?_ ?_
    · show _ = (judged .plain (x.drop 0) (y.drop 0) (st.drop 0)).map (0 + ·)
      rw [List.drop_zero, List.drop_zero, List.drop_zero]
      cases judged .plain x y st <;> simp
    · rintro n v σ H' hv ⟨v0, a, i, j, c, l, rfl, s2, hp, hi, hj, hjd⟩
      obtain ⟨sn, hsn, rfl⟩ := nV_of hv
      rw [Cm.judged_step hsn] at hjd
      refine ⟨_, rfl, _, rfl, _, rfl, _, rfl, b, o, a, x, y, i, j, l, sn, rfl, hb.same s2, ho.same s2, hp, fun q hq => ?_⟩
      refine ⟨_, rfl, ?_⟩
      cases hc : stepCost (Cm.bh l) x[i]? y[j]? sn with
      | none =>
        rw [hc] at hq hjd
        have q0 : q = false := by
          cases q with
          | false => rfl
          | true => exact absurd (hq.mp rfl) (by simp)
        subst q0
        have k := k H' s2
        rw [hjd] at k
        exact iteT k
      | some cc =>
        rw [hc] at hq hjd
        have q0 : q = true := hq.mpr rfl
        subst q0
        refine iteF ?_
        refine ⟨_, rfl, _, rfl, _, rfl, _, rfl, _, rfl, b, o, a, x, y, i, j, l, sn, cc, rfl, hb.same s2, ho.same s2, hp, hc, fun H2 s3 => ?_⟩
        refine ⟨_, _, rfl, rfl, ?_⟩
        refine ⟨_, rfl, _, rfl, a, i, j, l, sn, rfl, hp.same s3, Cm.cost_lt hc, fun H3 p s4 hp4 => ?_⟩
        refine ⟨_, p, i + Cm.tx sn, j + Cm.ty sn, c + cc, some sn, rfl, (s2.trans s3).trans s4, hp4, Cm.cost_tx hc hi, Cm.cost_ty hc hj, ?_⟩
        rw [hjd]
        show ((judged _ _ _ _).map (fun n => cc + n)).map _ = _
        rw [Option.map_map]
        congr 1
        funext z
        show c + (cc + z) = c + cc + z
        omega
    · rintro σ H' ⟨v0, a, i, j, c, l, rfl, s2, hp, hi, hj, hjd⟩
      rw [List.length_map, List.drop_length, Cm.judged_end hi hj] at hjd
      refine ⟨_, rfl, _, rfl, _, rfl, b, o, a, x, y, i, j, l, rfl, hb.same s2, ho.same s2, hp, fun q hq => ?_⟩
      refine ⟨_, rfl, ?_⟩
      have k := k H' s2
      by_cases he : i = x.length ∧ j = y.length
      · have q0 : q = true := hq.mpr he
        subst q0
        rw [if_pos he] at hjd
        rw [hjd] at k
        refine iteF ⟨_, rfl, ?_⟩
        exact k
      · have q0 : q = false := by
          cases q with
          | false => rfl
          | true => exact absurd (hq.mp rfl) he
        subst q0
        rw [if_neg he] at hjd
        rw [hjd] at k
        exact iteT k
end
end Co

set_option Elab.async false
set_option linter.all false
set_option maxRecDepth 100000
set_option maxHeartbeats 2000000
namespace L2
open PySem PySem.Spec PyProof.Rows
/-- the turns of enumerate(list), for the for loop -/
theorem for_enum {K : PySem.W.Frag} {a : Addr} {xs : List V} {g : TG} {tb : TS} {D : Ends} {σ : St} {H : Hp} (Pv : Nat → St → Hp → Prop) (h0 : Pv 0 σ H) (hl : ∀ i σ H, i ≤ xs.length → Pv i σ H → SqL K H a xs)
    (hs : ∀ i x T σ H, xs[i]? = some x → Pv i σ H → H T = none → g (.ref T) σ (upd H T (.tup [.int (i : Nat), x])) fun σ2 H2 => tb { D with nx := Pv (i + 1), ct := Pv (i + 1), bk := D.nx } σ2 H2) (hd : ∀ σ H, Pv xs.length σ H → D.nx σ H) :
    ∃ W : Nat → Nat → St → Hp → Prop, (∃ m, W 0 m σ H) ∧ ∀ i m σ H, W i m σ H →
      ((Ite K a).stop i H ∧ D.nx σ H) ∨ ((Ite K a).go i H ∧ ∃ N : St → Hp → Prop, (∀ σ' H', N σ' H' → ∃ m', m' < m ∧ W (i + 1) m' σ' H') ∧ ∀ x H', (Ite K a).yld i H x H' → g x σ H' fun σ2 H2 => tb { D with nx := N, ct := N, bk := D.nx } σ2 H2) := by
  refine ⟨fun i m σ H => m = xs.length - i ∧ i ≤ xs.length ∧ Pv i σ H, ⟨xs.length, by simp, Nat.zero_le _, h0⟩, ?_⟩
  rintro i m σ H ⟨rfl, hi, p⟩
  have q := hl i σ H hi p
  by_cases hlt : i < xs.length
  · refine .inr ⟨⟨xs, xs[i], q, by simp [hlt]⟩, Pv (i + 1), fun σ' H' p' => ⟨xs.length - (i + 1), by omega, rfl, hlt, p'⟩, fun v H' y => ?_⟩
    obtain ⟨T, x, e1, hT, e2, hx⟩ := y
    subst e1 e2
    exact hs i x T σ H (hx xs q) p hT
  · have e : i = xs.length := by omega
    subst e
    exact .inl ⟨⟨xs, q, Nat.le_refl _⟩, hd σ H p⟩
theorem iteY {c A B : Prop} [Decidable c] (h : c) (a : A) : if c then A else B := by rw [if_pos h]; exact a
theorem iteN {c A B : Prop} [Decidable c] (h : ¬ c) (b : B) : if c then A else B := by rw [if_neg h]; exact b
end L2
namespace Co
open PySem PySem.Spec PyProof.Rows L2
open PySem.W (Codec)
open Vh (Cell Letters pairCost leastCost stepCost judged)
/-! ### Runs, Move -/
def eV : Cm.E → V
  | none => .non
  | some a => nV a.2
def rf (c n : Addr) : List (Str × V) := putF "numbers" (.ref n) (putF "cells" (.ref c) [])
theorem rf_cells (c n : Addr) : (rf c n).lookup ("cells" : Str) = some (.ref c) := by
  unfold rf
  rw [lookup_putF, if_neg (by decide +kernel), lookup_putF, if_pos rfl]
theorem rf_numbers (c n : Addr) : (rf c n).lookup ("numbers" : Str) = some (.ref n) := by
  unfold rf
  rw [lookup_putF, if_pos rfl]
def mf (g : Vh.Move) : List (Str × V) := putF "count" (nV g.n) (putF "other_start" (nV g.y) (putF "base_start" (nV g.x) []))
theorem mf_base (g : Vh.Move) : (mf g).lookup ("base_start" : Str) = some (nV g.x) := by
  unfold mf
  rw [lookup_putF, if_neg (by decide +kernel), lookup_putF, if_neg (by decide +kernel), lookup_putF, if_pos rfl]
theorem mf_other (g : Vh.Move) : (mf g).lookup ("other_start" : Str) = some (nV g.y) := by
  unfold mf
  rw [lookup_putF, if_neg (by decide +kernel), lookup_putF, if_pos rfl]
theorem mf_count (g : Vh.Move) : (mf g).lookup ("count" : Str) = some (nV g.n) := by
  unfold mf
  rw [lookup_putF, if_pos rfl]
/-- Runs: a row's cells, and the numbers of their runs -/
def RunsAt (C : Addr) (H : Hp) (a c n : Addr) (x : List Cell) (L : List Cm.E) : Prop := (∃ dx, H a = some (.ins C dx (rf c n))) ∧ CellsAt H c x ∧ H n = some (.lst (L.map eV))
theorem RunsAt.same {C : Addr} {H H' : Hp} {a c n : Addr} {x : List Cell} {L : List Cm.E} (s : Same H H') (h : RunsAt C H a c n x L) : RunsAt C H' a c n x L := by
  obtain ⟨⟨dx, h1⟩, h2, h3⟩ := h
  exact ⟨⟨dx, s _ _ h1⟩, h2.same s, s _ _ h3⟩
def MoveAt (C : Addr) (H : Hp) (a : Addr) (g : Vh.Move) : Prop := ∃ dx, H a = some (.ins C dx (mf g))
theorem MoveAt.same {C : Addr} {H H' : Hp} {a : Addr} {g : Vh.Move} (s : Same H H') (h : MoveAt C H a g) : MoveAt C H' a g := let ⟨dx, e⟩ := h; ⟨dx, s _ _ e⟩
structure TxtR (K : PySem.W.Frag) (mg : Str → Option Value) (C : Addr) : Prop where
  cl : Cls K C
  nC : NoAttr K C "cells"
  nN : NoAttr K C "numbers"
  mgC : mg "Runs" = some (.ref C)
structure TxtM (K : PySem.W.Frag) (mg : Str → Option Value) (C : Addr) : Prop where
  cl : Cls K C
  nB : NoAttr K C "base_start"
  nO : NoAttr K C "other_start"
  nC : NoAttr K C "count"
  mgC : mg "Move" = some (.ref C)
/-! ### the promises -/
def spInitR (C : Addr) : Sp := fun vs H Q _ => ∃ (q dx c n : Addr), vs = [.ref q, .ref c, .ref n] ∧ H q = some (.ins C dx []) ∧ ∀ H' : Hp, H' q = some (.ins C dx (rf c n)) → (∀ b o, H b = some o → b ≠ q → H' b = some o) → Q .non H'
def spInitM (C : Addr) : Sp := fun vs H Q _ => ∃ (q dx : Addr) (g : Vh.Move), vs = [.ref q, nV g.x, nV g.y, nV g.n] ∧ H q = some (.ins C dx []) ∧ ∀ H' : Hp, H' q = some (.ins C dx (mf g)) → (∀ b o, H b = some o → b ≠ q → H' b = some o) → Q .non H'
def spRunNos (K : PySem.W.Frag) : Sp := fun vs H Q _ => ∃ (a t : Addr) (s : List Nat) (kind : Nat) (tk : Nat → Bool) (ts : List Int), vs = [.ref a, nV kind, .ref t] ∧ SqL K H a (s.map nV) ∧ (∀ H' : Hp, SqT K H' t (ts.map V.int)) ∧ (∀ u ∈ s, ts[u]? = some (if tk u = true then 1 else 0)) ∧ s.length ≤ 3000 ∧
  ∀ (H' : Hp) (q : Addr), Same H H' → H' q = some (.lst ((Cm.ck kind tk 0 none s).map eV)) → Q (.ref q) H'
def spGoesOn : Sp := fun vs H Q _ => ∃ (a : Addr) (L : List Cm.E) (i : Nat) (e : Nat × Nat), vs = [.ref a, nV i] ∧ H a = some (.lst (L.map eV)) ∧ L[i]? = some (some e) ∧ ∀ k : Bool, (k = true ↔ Cm.goB L i) → Q (.bl k) H
section
variable {P : Program} {w : World} {K : PySem.W.Frag} {mg : Str → Option Value} {base : Heap}
theorem scInitR : FnScope ["self", "cells", "numbers"] ["self", "cells", "numbers"] (defScope sInitR) := ⟨rfl, rfl, rfl, by decide +kernel, rfl, by decide +kernel, by decide +kernel⟩
theorem ok_initR {f C : Addr} {fd : FuncData} (F : Fun K "__init__" "Runs.__init__" sInitR f fd) (T : TxtR K mg C) : FnOk P w K mg base CX0 1 f fd ["self", "cells", "numbers"] (spInitR C) := by
  refine F.ok scInitR (fun vs H Q E h => ?_) (fun cdv A outer s H vs Q E hr h => ?_)
  · obtain ⟨q, dx, c, n, rfl, _⟩ := h
    rfl
  · obtain ⟨q, dx, c, n, rfl, hp, k⟩ := h
    refine ⟨_, pss_cons (ps_fld (pv 0) (pv 1) rfl) (pss_one (ps_fld (pv 0) (pv 2) rfl)), ?_⟩
    refine ⟨_, rfl, _, rfl, q, C, dx, [], rfl, hp, T.cl, T.nC, (by show 0 < 1000; decide), ?_⟩
    refine ⟨_, rfl, _, rfl, q, C, dx, _, rfl, upd_same, T.cl, T.nN, (by show 1 < 1000; decide), ?_⟩
    exact k _ upd_same fun b o e hb => by rw [upd_ne hb, upd_ne hb]; exact e
theorem scInitM : FnScope ["self", "base_start", "other_start", "count"] ["self", "base_start", "other_start", "count"] (defScope sInitM) := ⟨rfl, rfl, rfl, by decide +kernel, rfl, by decide +kernel, by decide +kernel⟩
theorem ok_initM {f C : Addr} {fd : FuncData} (F : Fun K "__init__" "Move.__init__" sInitM f fd) (T : TxtM K mg C) : FnOk P w K mg base CX0 1 f fd ["self", "base_start", "other_start", "count"] (spInitM C) := by
  refine F.ok scInitM (fun vs H Q E h => ?_) (fun cdv A outer s H vs Q E hr h => ?_)
  · obtain ⟨q, dx, g, rfl, _⟩ := h
    rfl
  · obtain ⟨q, dx, g, rfl, hp, k⟩ := h
    refine ⟨_, pss_cons (ps_fld (pv 0) (pv 1) rfl) (pss_cons (ps_fld (pv 0) (pv 2) rfl) (pss_one (ps_fld (pv 0) (pv 3) rfl))), ?_⟩
    refine ⟨_, rfl, _, rfl, q, C, dx, [], rfl, hp, T.cl, T.nB, (by show 0 < 1000; decide), ?_⟩
    refine ⟨_, rfl, _, rfl, q, C, dx, _, rfl, upd_same, T.cl, T.nO, (by show 1 < 1000; decide), ?_⟩
    refine ⟨_, rfl, _, rfl, q, C, dx, _, rfl, upd_same, T.cl, T.nC, (by show 2 < 1000; decide), ?_⟩
    exact k _ upd_same fun b o e hb => by rw [upd_ne hb, upd_ne hb, upd_ne hb]; exact e
theorem make_move {C : Addr} {H1 : Hp} (g : Vh.Move) {Q : VK} (k : ∀ (H' : Hp) (a : Addr), Same H1 H' → H1 a = none → MoveAt C H' a g → Q (.ref a) H') :
    ∀ q dx, H1 q = none → H1 dx = none → dx ≠ q → spInitM C [.ref q, nV g.x, nV g.y, nV g.n] (upd (upd H1 dx (.own q)) q (.ins C dx [])) (fun v H2 => v = .non ∧ Q (.ref q) H2) E0 := fun q dx nq ndx _ =>
  ⟨q, dx, g, rfl, upd_same, fun H' e kp => ⟨rfl, k H' q (Same.made nq ndx kp) nq ⟨dx, e⟩⟩⟩
theorem make_runs {C : Addr} {H1 : Hp} {c n : Addr} {x : List Cell} {L : List Cm.E} {Q : VK} (hc : CellsAt H1 c x) (hn : H1 n = some (.lst (L.map eV))) (k : ∀ (H' : Hp) (a : Addr), Same H1 H' → H1 a = none → RunsAt C H' a c n x L → Q (.ref a) H') :
    ∀ q dx, H1 q = none → H1 dx = none → dx ≠ q → spInitR C [.ref q, .ref c, .ref n] (upd (upd H1 dx (.own q)) q (.ins C dx [])) (fun v H2 => v = .non ∧ Q (.ref q) H2) E0 := fun q dx nq ndx _ =>
  ⟨q, dx, c, n, rfl, upd_same, fun H' e kp => ⟨rfl, k H' q (Same.made nq ndx kp) nq ⟨⟨dx, e⟩, hc.same (Same.made nq ndx kp), Same.made nq ndx kp n _ hn⟩⟩⟩
/-! ### run_numbers -/
theorem scRunNos : FnScope ["told", "kind", "taken", "numbers", "turn", "step"] ["told", "kind", "taken"] (defScope sRunNos) := ⟨rfl, rfl, rfl, by decide +kernel, rfl, by decide +kernel, by decide +kernel⟩
theorem ok_runNos {f : Addr} {fd : FuncData} (F : Fun K "run_numbers" "run_numbers" sRunNos f fd) (T : Txt K mg) : FnOk P w K mg base CX0 1 f fd ["told", "kind", "taken"] (spRunNos K) := by
  refine F.ok scRunNos (fun vs H Q E h => ?_) (fun cdv A outer s H vs Q E hr h => ?_)
  · obtain ⟨a, t, st, kind, tk, ts, rfl, _⟩ := h
    rfl
  · obtain ⟨a, t, st, kind, tk, ts, rfl, ha, ht, htk, hl, k⟩ := h
    refine ⟨_, pss_cons (ps_set (i := 3) scRunNos.nd rfl (Or.inl rfl) (pe_lst pa_nil))
      (pss_cons (ps_for PassesOwn.never rfl (pi_enum rfl T.enum (pa_cons (pv 0) pa_nil)) (pg_tup rfl (pgs_cons (pg_name (i := 4) scRunNos.nd rfl (Or.inl rfl)) (pgs_cons (pg_name (i := 5) scRunNos.nd rfl (Or.inl rfl)) pgs_nil)))
        (pss_one (ps_if (pw_and (pt_cmpR op_eq (pv 5) (pv 1) (nomark _)) (pw_and (pt_cmpR op_gt (pv 4) pe_int (nomark _)) (pw_and1 (pt_cmpR op_eq (pix (pv 0) (pe_op op_sub (pv 4) pe_int)) (pv 1) (nomark _))))).pt
          (pss_one (ps_expr (pe_bm PySem.F.plainAttrs_list PySem.F.slot_list_append PySem.F.type_list_append mt_append (pv 3) (pa_cons (pix (pv 3) (pe_un un_neg pe_int)) pa_nil))))
          (pss_one (ps_if (pt_cmpR op_eq (pv 5) (pv 1) (nomark _))
            (pss_one (ps_expr (pe_bm PySem.F.plainAttrs_list PySem.F.slot_list_append PySem.F.type_list_append mt_append (pv 3) (pa_cons (pv 4) pa_nil))))
            (pss_one (ps_if (pt_cmpR op_eq (pixT (pv 2) (pv 5)) pe_int (nomark _))
              (pss_one (ps_expr (pe_bm PySem.F.plainAttrs_list PySem.F.slot_list_append PySem.F.type_list_append mt_append (pv 3) (pa_cons pe_non pa_nil)))) pss_nil)))))))
      (pss_one (ps_ret (pv 3)))), ?_⟩
    refine ⟨Nat.zero_le _, fun q hq => ?_⟩
    have s0 : Same H (upd H q (.lst [])) := (Same.refl H).upd hq
    refine ⟨_, rfl, a, _, rfl, s0.seq ha, ?_⟩
    refine for_enum (K := K) (a := a) (xs := st.map nV) (fun n σ H' => (∃ v4 v5, σ = [some (.ref a), some (nV kind), some (.ref t), some (.ref q), v4, v5]) ∧ Same H H' ∧ H' q = some (.lst ((Cm.ck kind tk 0 none (st.take n)).map eV)))
      ⟨⟨_, _, rfl⟩, s0, upd_same⟩ (fun n σ H' _ ⟨_, s2, _⟩ => s2.seq ha) ?_ ?_
    · rintro n v U σ H' hv ⟨⟨v4, v5, rfl⟩, s2, e⟩ hU
      obtain ⟨sn, hsn, rfl⟩ := nV_of hv
      have hnl : n < st.length := (List.getElem?_eq_some_iff.mp hsn).1
      have nq : q ≠ U := ne_of_none e hU
      have s3 : Same H (upd H' U (.tup [.int (n : Nat), nV sn])) := s2.upd (s2.free hU)
      have e3 : (upd H' U (.tup [.int (n : Nat), nV sn])) q = some (.lst ((Cm.ck kind tk 0 none (st.take n)).map eV)) := by rw [upd_ne nq]; exact e
      have hlen : ((Cm.ck kind tk 0 none (st.take n)).map eV).length < sizeLine := by
        have h1 := Cm.ck_le kind tk (st.take n) 0 none
        rw [List.length_take] at h1
        rw [List.length_map]
        exact Nat.lt_of_le_of_lt (show (Cm.ck kind tk 0 none (st.take n)).length ≤ 3000 by omega) (by decide)
      have etk : st.take (n + 1) = st.take n ++ [sn] := by rw [List.take_add_one, hsn]; rfl
      have eck : Cm.ck kind tk 0 none (st.take (n + 1)) = Cm.ck kind tk 0 none (st.take n) ++ Cm.one kind tk n (Cm.prA kind 0 none (st.take n)) sn := by
        rw [etk, Cm.ck_snoc, List.length_take, Nat.min_eq_left (Nat.le_of_lt hnl), Nat.zero_add]
      refine ⟨U, _, rfl, SqT.of upd_same, rfl, _, _, rfl, _, _, rfl, rfl, ?_⟩
      have hq0 : H q = none := hq
      generalize upd H' U (.tup [.int (n : Nat), nV sn]) = H3 at *
      refine ⟨_, rfl, _, rfl, rfl, _, rfl, ite2 (fun h1 => ?_) (fun h1 => ?_)⟩
      · have h1 : sn = kind := by have := (dec_nV _ _).mp h1; omega
        subst h1
        refine ⟨_, rfl, _, _, rfl, rfl, _, rfl, ite2 (fun h2 => ?_) (fun h2 => ?_)⟩
        · have h2 : (0 : Int) < (n : Int) := of_decide_eq_true h2
          obtain ⟨m, rfl⟩ : ∃ m, n = m + 1 := ⟨n - 1, by omega⟩
          obtain ⟨sm, hsm⟩ : ∃ sm, st[m]? = some sm := ⟨_, List.getElem?_eq_getElem (by omega)⟩
          refine ⟨_, rfl, _, rfl, _, _, rfl, rfl, a, _, _, _, rfl, rfl, s3.seq ha, at_of (j := m) (by omega) (nV_get hsm), _, rfl, rfl, _, rfl, ite2 (fun h3 => ?_) (fun h3 => ?_)⟩
          · have h3 : sm = sn := by have := (dec_nV _ _).mp h3; omega
            subst h3
            have etm : st.take (m + 1) = st.take m ++ [sm] := by rw [List.take_add_one, hsm]; rfl
            have epr : Cm.prA sm 0 none (st.take (m + 1)) = some ((Cm.prA sm 0 none (st.take m)).getD m) := by
              rw [etm, Cm.prA_snoc, if_pos rfl, List.length_take, Nat.min_eq_left (by omega), Nat.zero_add]
            have ecm : Cm.ck sm tk 0 none (st.take (m + 1)) = Cm.ck sm tk 0 none (st.take m) ++ [some (m, (Cm.prA sm 0 none (st.take m)).getD m)] := by
              rw [etm, Cm.ck_snoc, List.length_take, Nat.min_eq_left (by omega), Nat.zero_add]
              unfold Cm.one
              rw [if_pos rfl]
            refine ⟨_, rfl, .inl ⟨rfl, _, SqL.of e3⟩, _, rfl, _, rfl, q, _, _, nV ((Cm.prA sm 0 none (st.take m)).getD m), rfl, rfl, SqL.of e3, ?_, q, _, _, rfl, rfl, e3, hlen, ?_⟩
            · rw [ecm, List.map_append]
              exact atI_last _ _
            refine ⟨⟨_, _, rfl⟩, s3.upd hq0, ?_⟩
            rw [upd_same, eck, epr]
            unfold Cm.one
            rw [if_pos rfl, List.map_append]
            rfl
          · have h3 : ¬ sm = sn := fun z => h3 ((dec_nV _ _).mpr (by rw [z]))
            have etm : st.take (m + 1) = st.take m ++ [sm] := by rw [List.take_add_one, hsm]; rfl
            have epr : Cm.prA sn 0 none (st.take (m + 1)) = none := by
              rw [etm, Cm.prA_snoc, if_neg h3]
            refine ⟨_, rfl, _, rfl, rfl, _, rfl, iteY ((dec_nV _ _).mpr rfl) ?_⟩
            refine ⟨_, rfl, .inl ⟨rfl, _, SqL.of e3⟩, _, rfl, q, _, _, rfl, rfl, e3, hlen, ?_⟩
            refine ⟨⟨_, _, rfl⟩, s3.upd hq0, ?_⟩
            rw [upd_same, eck, epr]
            unfold Cm.one
            rw [if_pos rfl, List.map_append]
            rfl
        · have h2 : ¬ (0 : Int) < (n : Int) := fun z => h2 (decide_eq_true z)
          obtain rfl : n = 0 := by omega
          refine iteF ?_
          refine ⟨_, rfl, _, rfl, rfl, _, rfl, iteY ((dec_nV _ _).mpr rfl) ?_⟩
          refine ⟨_, rfl, .inl ⟨rfl, _, SqL.of e3⟩, _, rfl, q, _, _, rfl, rfl, e3, hlen, ?_⟩
          refine ⟨⟨_, _, rfl⟩, s3.upd hq0, ?_⟩
          rw [upd_same, eck]
          unfold Cm.one
          rw [if_pos rfl, List.map_append]
          rfl
      · have h1 : ¬ sn = kind := fun z => h1 ((dec_nV _ _).mpr (by rw [z]))
        refine iteF ?_
        refine ⟨_, rfl, _, rfl, rfl, _, rfl, iteN (fun z => h1 (by have := (dec_nV _ _).mp z; omega)) ?_⟩
        have hts := htk sn (List.mem_of_getElem? hsn)
        have hts' : (ts.map V.int)[sn]? = some (V.int (if tk sn = true then 1 else 0)) := by rw [List.getElem?_map, hts]; rfl
        refine ⟨_, rfl, _, rfl, t, _, _, _, rfl, rfl, ht _, atI_nat hts', rfl, _, rfl, ite2 (fun h2 => ?_) (fun h2 => ?_)⟩
        · have h2 : (if tk sn = true then (1 : Int) else 0) = 1 := (dec_V _ _).mp h2
          have h2 : tk sn = true := by
            cases z : tk sn with
            | true => rfl
            | false => rw [z] at h2; cases h2
          refine ⟨_, rfl, .inl ⟨rfl, _, SqL.of e3⟩, q, _, _, rfl, rfl, e3, hlen, ?_⟩
          refine ⟨⟨_, _, rfl⟩, s3.upd hq0, ?_⟩
          rw [upd_same, eck]
          unfold Cm.one
          rw [if_neg h1, if_pos h2, List.map_append]
          rfl
        · have h2 : ¬ tk sn = true := fun z => h2 ((dec_V _ _).mpr (by rw [z]; rfl))
          refine ⟨⟨_, _, rfl⟩, s3, ?_⟩
          rw [e3, eck]
          unfold Cm.one
          rw [if_neg h1, if_neg h2, List.append_nil]
    · rintro σ H' ⟨⟨v4, v5, rfl⟩, s2, e⟩
      rw [List.length_map, List.take_length] at e
      exact ⟨_, rfl, k H' q s2 e⟩
/-! ### goes_on -/
theorem scal_eV (e : Cm.E) (n : Nat) : scal (eV e) (nV n) = true := by cases e <;> rfl
theorem scGoesOn : FnScope ["numbers", "cell"] ["numbers", "cell"] (defScope sGoesOn) := ⟨rfl, rfl, rfl, by decide +kernel, rfl, by decide +kernel, by decide +kernel⟩
theorem ok_goesOn {f : Addr} {fd : FuncData} (F : Fun K "goes_on" "goes_on" sGoesOn f fd) (T : Txt K mg) : FnOk P w K mg base CX0 1 f fd ["numbers", "cell"] spGoesOn := by
  refine F.ok scGoesOn (fun vs H Q E h => ?_) (fun cdv A outer s H vs Q E hr h => ?_)
  · obtain ⟨a, L, i, e, rfl, _⟩ := h
    rfl
  · obtain ⟨a, L, i, e, rfl, ha, he, k⟩ := h
    refine ⟨_, pss_one (ps_ret (pe_and (pe_cmpR op_lt (pe_op op_add (pv 1) pe_int) (plen T.len (pv 0)) (nomark _)) (pe_one (pe_cmpR op_eq (pix (pv 0) (pe_op op_add (pv 1) pe_int)) (pix (pv 0) (pv 1)) (nomark _))))), ?_⟩
    have he' : (L.map eV)[i]? = some (nV e.2) := by rw [List.getElem?_map, he]; rfl
    refine ⟨_, rfl, _, _, rfl, rfl, _, rfl, a, _, rfl, .inl (SqL.of ha), _, _, rfl, rfl, _, rfl, ite2 (fun h1 => ?_) (fun h1 => ?_)⟩
    · have h1 : (i : Int) + 1 < ((L.map eV).length : Int) := of_decide_eq_true h1
      rw [List.length_map] at h1
      obtain ⟨c, hc⟩ : ∃ c, L[i + 1]? = some c := ⟨_, List.getElem?_eq_getElem (by omega)⟩
      have hc' : (L.map eV)[i + 1]? = some (eV c) := by rw [List.getElem?_map, hc]; rfl
      refine ⟨_, rfl, _, rfl, _, _, rfl, rfl, a, _, _, _, rfl, rfl, SqL.of ha, at_of (j := i + 1) (by omega) hc', _, rfl, _, rfl, a, _, _, _, rfl, rfl, SqL.of ha, atI_nat he', scal_eV _ _, ?_⟩
      refine k _ ?_
      unfold Cm.goB
      rw [he, hc]
      cases c with
      | none =>
        constructor
        · intro z
          have z : V.non = nV e.2 := of_decide_eq_true z
          cases z
        · rintro ⟨a, c, _, z, _⟩
          cases z
      | some c =>
        rw [show decide (eV (some c) = nV e.2) = decide (nV c.2 = V.int (e.2 : Int)) from rfl, dec_nV]
        constructor
        · intro z
          exact ⟨e, c, rfl, rfl, by omega⟩
        · rintro ⟨a', c', z1, z2, z3⟩
          cases z1
          cases z2
          omega
    · have h1' := h1
      have h1 : ¬ (i : Int) + 1 < ((L.map eV).length : Int) := fun z => h1 (decide_eq_true z)
      rw [List.length_map] at h1
      refine k _ ?_
      constructor
      · intro z
        cases z
      · rintro ⟨a', c', _, z2, _⟩
        rw [List.getElem?_eq_none (by omega)] at z2
        cases z2
end
end Co

set_option Elab.async false
set_option linter.all false
set_option maxRecDepth 100000
set_option maxHeartbeats 2000000
namespace L2
open PySem PySem.Spec PyProof.Rows
/-- xs[i] where it is taken to be changed -/
def rGetL (K : PySem.W.Frag) : V → V → Hp → VK → Prop := fun o i H Q => ∃ (p : Addr) (xs : List V) (j : Nat) (z : Int) (v : V), o = .ref p ∧ i = .int z ∧ z = (j : Int) ∧ SqL K H p xs ∧ xs[j]? = some v ∧ Q v H
theorem get_list {X : Cx} : PGet X (rGetL X.K) := by
  intro pins s σ H o i ov iv Q I ro ri h
  obtain ⟨p, xs, j, z, v, rfl, rfl, rfl, hq, hv, q⟩ := h
  cases ro
  obtain ⟨t, rfl⟩ := ri
  obtain ⟨its, r, pl, hz⟩ := I.list hq
  obtain ⟨w, ew, rw'⟩ := r.get hv
  have hl := r.length
  have hj : j < its.length := (List.getElem?_eq_some_iff.mp ew).1
  have hn := line63
  exact wpAny_getItem_list pl.isList (by omega) (by omega) (by simpa using ew) ⟨v, H, I, rw', q⟩
theorem ix_of' {n j : Nat} {z : Int} (e : z = (j : Int)) (h : j < n) : ixN n z = some j := by
  subst e
  unfold ixN
  rw [if_pos (by omega), if_pos (by omega)]
  simp
end L2
namespace Co
open PySem PySem.Spec PyProof.Rows L2
open PySem.W (Codec)
open Vh (Cell Letters pairCost leastCost stepCost judged)
/-! ### lists filled from their beginnings -/
def up (f : Nat → Nat) (m t : Nat) : List V := (List.range m).map fun j => nV (if j < t then f j else 0)
theorem up_len (f : Nat → Nat) (m t : Nat) : (up f m t).length = m := by simp [up]
theorem up_get (f : Nat → Nat) {m t j : Nat} (h : j < m) : (up f m t)[j]? = some (nV (if j < t then f j else 0)) := by
  unfold up
  rw [List.getElem?_map, List.getElem?_range h]
  rfl
theorem up_set (f : Nat → Nat) {m t : Nat} (h : t < m) : (up f m t).set t (nV (f t)) = up f m (t + 1) := by
  refine List.ext_getElem? fun j => ?_
  by_cases hj : j < m
  · rw [List.getElem?_set, up_get f hj, up_get f hj, up_len]
    by_cases e : t = j
    · rw [if_pos e, if_pos h, ← e, if_pos (Nat.lt_succ_self _)]
    · rw [if_neg e]
      by_cases q : j < t
      · rw [if_pos q, if_pos (by omega)]
      · rw [if_neg q, if_neg (by omega)]
  · rw [List.getElem?_eq_none (by rw [List.length_set, up_len]; omega), List.getElem?_eq_none (by rw [up_len]; omega)]
theorem up_keep (f : Nat → Nat) {m t : Nat} (h : t < m) (e : f t = 0) : up f m t = up f m (t + 1) := by
  rw [← up_set f h, e]
  refine List.ext_getElem? fun j => ?_
  rw [List.getElem?_set]
  by_cases z : t = j
  · subst z
    rw [if_pos rfl, up_get f h, up_len, if_pos h, if_neg (Nat.lt_irrefl _)]
  · rw [if_neg z]
theorem set_set (l : List V) (i : Nat) (u v : V) : (l.set i u).set i v = l.set i v := by
  refine List.ext_getElem? fun j => ?_
  rw [List.getElem?_set, List.getElem?_set, List.getElem?_set, List.length_set]
  by_cases z : i = j
  · rw [if_pos z, if_pos z]
  · rw [if_neg z, if_neg z, if_neg z]
/-- counts of words together, from a cell of x, by the cells of y -/
def cl (x y : List Cell) (L M : List Cm.E) (i : Nat) : List V := (List.range M.length).map fun j => nV (Cm.fc x y L M i j)
theorem cl_get (x y : List Cell) (L M : List Cm.E) (i : Nat) {j : Nat} (h : j < M.length) : (cl x y L M i)[j]? = some (nV (Cm.fc x y L M i j)) := by
  unfold cl
  rw [List.getElem?_map, List.getElem?_range h]
  rfl
theorem cl_len (x y : List Cell) (L M : List Cm.E) (i : Nat) : (cl x y L M i).length = M.length := by simp [cl]
theorem up_full (x y : List Cell) (L M : List Cm.E) (i : Nat) : up (Cm.fc x y L M i) M.length M.length = cl x y L M i := by
  unfold up cl
  refine List.map_congr_left fun j hj => ?_
  rw [if_pos (List.mem_range.mp hj)]
theorem rep_one' (k : Nat) (v : V) : (List.replicate k [v]).flatten = List.replicate k v := by
  induction k with
  | zero => rfl
  | succ k ih => rw [List.replicate_succ, List.flatten_cons, ih, List.replicate_succ]; rfl
theorem up_none (f : Nat → Nat) (m : Nat) : (List.replicate m [V.int 0]).flatten = up f m 0 := by
  rw [rep_one']
  refine List.ext_getElem? fun j => ?_
  by_cases hj : j < m
  · rw [up_get f hj, List.getElem?_replicate, if_pos hj, if_neg (Nat.not_lt_zero _)]
    rfl
  · rw [List.getElem?_eq_none (by simp; omega), List.getElem?_eq_none (by rw [up_len]; omega)]
theorem up_zero (f : Nat → Nat) (m : Nat) (h : ∀ j, f j = 0) : up f m 0 = up f m m := by
  refine List.ext_getElem? fun j => ?_
  by_cases hj : j < m
  · rw [up_get f hj, up_get f hj, if_neg (Nat.not_lt_zero _), if_pos hj, h]
  · rw [List.getElem?_eq_none (by rw [up_len]; omega), List.getElem?_eq_none (by rw [up_len]; omega)]
/-! ### the promises -/
def spCountsAt (C : Addr) : Sp := fun vs H Q _ => ∃ (ma aa ba c n c' n' : Addr) (x y : List Cell) (L M : List Cm.E) (i : Nat), vs = [.ref ma, .ref aa, nV i, .ref ba] ∧ RunsAt C H ma c n x L ∧ RunsAt C H aa c' n' y M ∧ Cm.RunsOk x L ∧ Cm.RunsOk y M ∧ i < L.length ∧ H ba = some (.lst (cl x y L M (i + 1))) ∧ M.length ≤ 3000 ∧
  ∀ (H' : Hp) (q : Addr), Same H H' → H' q = some (.lst (cl x y L M i)) → Q (.ref q) H'
def spGreatest (C CM : Addr) : Sp := fun vs H Q _ => ∃ (ma aa c n c' n' : Addr) (x y : List Cell) (L M : List Cm.E), vs = [.ref ma, .ref aa] ∧ RunsAt C H ma c n x L ∧ RunsAt C H aa c' n' y M ∧ Cm.RunsOk x L ∧ Cm.RunsOk y M ∧ L.length ≤ 3000 ∧ M.length ≤ 3000 ∧
  ∀ (H' : Hp) (q : Addr) (g : Vh.Move), Same H H' → MoveAt CM H' q g → Cm.Best (Cm.fc x y L M) (Cm.Aft L.length M.length 0 0) g → Q (.ref q) H'
section
variable {P : Program} {w : World} {K : PySem.W.Frag} {mg : Str → Option Value} {base : Heap}
/-! ### counts_at -/
theorem scCountsAt : FnScope ["missing", "added", "cell", "behind", "counts", "going_on", "beside", "word"] ["missing", "added", "cell", "behind"] (defScope sCountsAt) := ⟨rfl, rfl, rfl, by decide +kernel, rfl, by decide +kernel, by decide +kernel⟩
theorem ok_countsAt {f C fG fA : Addr} {fd fdG fdA : FuncData} (F : Fun K "counts_at" "counts_at" sCountsAt f fd) (T : Txt K mg) (TR : TxtR K mg C) (GG : FnOk P w K mg base CX0 1 fG fdG ["numbers", "cell"] spGoesOn) (uG : Use K mg "goes_on" fG fdG ["numbers", "cell"])
    (GA : FnOk P w K mg base CX0 1 fA fdA ["word", "other"] spAlike) (uA : Use K mg "are_alike" fA fdA ["word", "other"]) : FnOk P w K mg base CX0 2 f fd ["missing", "added", "cell", "behind"] (spCountsAt C) := by
  refine F.ok scCountsAt (fun vs H Q E h => ?_) (fun cdv A outer s H vs Q E hr h => ?_)
  · obtain ⟨ma, aa, ba, c, n, c', n', x, y, L, M, i, rfl, _⟩ := h
    rfl
  · obtain ⟨ma, aa, ba, c, n, c', n', x, y, L, M, i, rfl, ⟨⟨dm, hm1⟩, hm2, hm3⟩, ⟨⟨da, ha1⟩, ha2, ha3⟩, rL, rM, hi, hb, hlen, k⟩ := h
    refine ⟨_, pss_cons (ps_set (i := 4) scCountsAt.nd rfl (Or.inl rfl) (pe_op op_rep (pe_lst (pa_cons pe_int pa_nil)) (plen T.len (pe_fld (pv 1) rfl))))
      (pss_cons (ps_if (pt_cmp (pc_isN (pix (pe_fld (pv 0) rfl) (pv 2)))) (pss_one (ps_ret (pv 4))) pss_nil)
      (pss_cons (ps_set (i := 5) scCountsAt.nd rfl (Or.inl rfl) (pe_call GG hr rfl uG.m uG.kp uG.b .nil pass0 (pa_cons (pe_fld (pv 0) rfl) (pa_cons (pv 2) pa_nil))))
      (pss_cons (ps_for PassesOwn.never rfl (pi_enum rfl T.enum (pa_cons (pe_fld (pv 1) rfl) pa_nil)) (pg_tup rfl (pgs_cons (pg_name (i := 6) scCountsAt.nd rfl (Or.inl rfl)) (pgs_cons (pg_name (i := 7) scCountsAt.nd rfl (Or.inl rfl)) pgs_nil)))
        (pss_one (ps_if (pw_and (pt_cmp (pc_notN (pix (pe_fld (pv 1) rfl) (pv 6)))) (pw_and1 (pt_val (pe_call GA hr (by rfl) uA.m uA.kp uA.b .nil pass0 (pa_cons (pix (pe_fld (pv 0) rfl) (pv 2)) (pa_cons (pv 7) pa_nil)))))).pt
          (pss_cons (ps_asg pe_int (pg_sub (pv 4) (pv 6) set_list))
          (pss_one (ps_if (pw_and (pt_val (pv 5)) (pw_and1 (pt_val (pe_call GG hr (by rfl) uG.m uG.kp uG.b .nil pass0 (pa_cons (pe_fld (pv 1) rfl) (pa_cons (pv 6) pa_nil)))))).pt
            (pss_one (ps_augS (pv 4) (pv 6) get_list (pix (pv 3) (pe_op op_add (pv 6) pe_int)) ip_add set_list)) pss_nil))) pss_nil)))
      (pss_one (ps_ret (pv 4)))))), ?_⟩
    obtain ⟨avs, ha21, ha22, ha23⟩ := id ha2
    obtain ⟨mvs, hm21, hm22, hm23⟩ := id hm2
    have lM := rM.len
    have lL := rL.len
    have hrn : ((avs.length : Nat) : Int).toNat = M.length := by omega
    refine ⟨(by show 1 ≤ sizeLine; decide), fun l0 hl0 => ?_⟩
    have s0 : Same H (upd H l0 (.lst [.int 0])) := (Same.refl H).upd hl0
    refine ⟨_, rfl, aa, C, da, _, _, rfl, s0 _ _ ha1, TR.cl, TR.nC, rf_cells _ _, c', _, rfl, .inl (SqL.of (s0 _ _ ha21)), l0, _, _, rfl, rfl, upd_same, by omega, by omega, ?_, fun q hq => ?_⟩
    · rw [hrn]
      exact Nat.le_trans (show 1 * M.length ≤ 3000 by omega) (by decide)
    have fq : H q = none := s0.free hq
    have s1 := s0.upd fq (o := .lst (List.replicate ((avs.length : Nat) : Int).toNat [V.int 0]).flatten)
    have e1 : (upd (upd H l0 (.lst [.int 0])) q (.lst (List.replicate ((avs.length : Nat) : Int).toNat [V.int 0]).flatten)) q = some (.lst (up (Cm.fc x y L M i) M.length 0)) := by
      rw [upd_same, hrn, up_none]
    generalize upd (upd H l0 (.lst [.int 0])) q (.lst (List.replicate ((avs.length : Nat) : Int).toNat [V.int 0]).flatten) = H1 at *
    obtain ⟨e, he⟩ : ∃ e, L[i]? = some e := ⟨_, List.getElem?_eq_getElem hi⟩
    have he' : (L.map eV)[i]? = some (eV e) := by rw [List.getElem?_map, he]; rfl
    refine ⟨_, rfl, ma, C, dm, _, _, rfl, s1 _ _ hm1, TR.cl, TR.nN, rf_numbers _ _, _, rfl, n, _, _, _, rfl, rfl, SqL.of (s1 _ _ hm3), atI_nat he', _, rfl, ?_⟩
    cases e with
    | none =>
      refine iteY rfl ⟨_, rfl, k H1 q s1 ?_⟩
      rw [e1, up_zero _ _ (fun j => Cm.fc_noneL he j), up_full]
    | some a =>
      refine iteN (fun z => by cases (of_decide_eq_true z : eV (some a) = V.non)) ?_
      obtain ⟨lw, hlw⟩ := rL.word i a he
      obtain ⟨v0, hv0, t0, rfl, ht0⟩ := hm23 i _ hlw
      refine ⟨_, rfl, ma, C, dm, _, _, rfl, s1 _ _ hm1, TR.cl, TR.nN, rf_numbers _ _, _, rfl, n, L, i, a, rfl, s1 _ _ hm3, he, fun kg hkg => ?_⟩
      refine ⟨_, rfl, aa, C, da, _, _, rfl, s1 _ _ ha1, TR.cl, TR.nC, rf_cells _ _, c', avs, rfl, SqL.of (s1 _ _ ha21), ?_⟩
      refine for_enum (K := K) (a := c') (xs := avs) (fun t σ H' => (∃ v6 v7, σ = [some (.ref ma), some (.ref aa), some (nV i), some (.ref ba), some (.ref q), some (.bl kg), v6, v7]) ∧ Same H H' ∧ H' q = some (.lst (up (Cm.fc x y L M i) M.length t)))
        ⟨⟨_, _, rfl⟩, s1, e1⟩ (fun t σ H' _ ⟨_, s2, _⟩ => SqL.of (s2 _ _ ha21)) ?_ ?_
      · rintro j v U σ H' hv ⟨⟨v6, v7, rfl⟩, s2, e2⟩ hU
        have hjl : j < M.length := by have := (List.getElem?_eq_some_iff.mp hv).1; omega
        have nq : q ≠ U := ne_of_none e2 hU
        have s3 : Same H (upd H' U (.tup [.int (j : Nat), v])) := s2.upd (s2.free hU)
        have e3 : (upd H' U (.tup [.int (j : Nat), v])) q = some (.lst (up (Cm.fc x y L M i) M.length j)) := by rw [upd_ne nq]; exact e2
        refine ⟨U, _, rfl, SqT.of upd_same, rfl, _, _, rfl, _, _, rfl, rfl, ?_⟩
        generalize upd H' U (.tup [.int (j : Nat), v]) = H3 at *
        obtain ⟨d, hd⟩ : ∃ d, M[j]? = some d := ⟨_, List.getElem?_eq_getElem hjl⟩
        have hd' : (M.map eV)[j]? = some (eV d) := by rw [List.getElem?_map, hd]; rfl
        refine ⟨_, rfl, aa, C, da, _, _, rfl, s3 _ _ ha1, TR.cl, TR.nN, rf_numbers _ _, _, rfl, n', _, _, _, rfl, rfl, SqL.of (s3 _ _ ha3), atI_nat hd', _, rfl, ?_⟩
        cases d with
        | none =>
          refine iteN (fun z => by cases z) (iteF ?_)
          exact ⟨⟨_, _, rfl⟩, s3, by rw [e3, up_keep _ hjl (Cm.fc_noneR hd i)]⟩
        | some b =>
          refine iteY rfl ?_
          obtain ⟨mw, hmw⟩ := rM.word j b hd
          obtain ⟨v1, hv1, t1, rfl, ht1⟩ := ha23 j _ hmw
          rw [hv] at hv1
          cases hv1
          refine ⟨_, rfl, ma, C, dm, _, _, rfl, s3 _ _ hm1, TR.cl, TR.nC, rf_cells _ _, _, rfl, c, _, _, _, rfl, rfl, SqL.of (s3 _ _ hm21), atI_nat hv0, _, rfl, t0, t1, lw, mw, rfl, s3 _ _ ht0, s3 _ _ ht1, fun ka hka => ⟨_, rfl, ite2 (fun c1 => ?_) (fun c1 => ?_)⟩⟩
          · have hal : Vh.alikeAt x y i j = true := (Cm.alikeAt_iff hlw hmw).mpr (hka.mp c1)
            refine ⟨_, rfl, _, rfl, q, _, _, j, rfl, rfl, e3, ix_of' rfl (by rw [up_len]; exact hjl), ?_⟩
            have s4 := s3.upd fq (o := .lst ((up (Cm.fc x y L M i) M.length j).set j (.int 1)))
            have e4 : (upd H3 q (.lst ((up (Cm.fc x y L M i) M.length j).set j (.int 1)))) q = some (.lst ((up (Cm.fc x y L M i) M.length j).set j (.int 1))) := upd_same
            generalize upd H3 q (.lst ((up (Cm.fc x y L M i) M.length j).set j (.int 1))) = H4 at *
            have stop : ¬ (Cm.goB L i ∧ Cm.goB M j) → (up (Cm.fc x y L M i) M.length j).set j (.int 1) = up (Cm.fc x y L M i) M.length (j + 1) := fun g => by
              rw [← up_set _ hjl, Cm.fc_stop he hd hal g]
              rfl
            refine ⟨_, rfl, _, rfl, ite2 (fun c2 => ?_) (fun c2 => ?_)⟩
            · refine ⟨_, rfl, aa, C, da, _, _, rfl, s4 _ _ ha1, TR.cl, TR.nN, rf_numbers _ _, _, rfl, n', M, j, b, rfl, s4 _ _ ha3, hd, fun kh hkh => ⟨_, rfl, ite2 (fun c3 => ?_) (fun c3 => ?_)⟩⟩
              · have g1 := hkg.mp c2
                have g2 := hkh.mp c3
                have hj1 : j + 1 < M.length := by
                  obtain ⟨_, _, _, z, _⟩ := g2
                  exact (List.getElem?_eq_some_iff.mp z).1
                have hset : ((up (Cm.fc x y L M i) M.length j).set j (.int 1))[j]? = some (.int 1) := by
                  rw [List.getElem?_set, if_pos rfl, up_len, if_pos hjl]
                refine ⟨_, rfl, _, rfl, q, _, j, _, _, rfl, rfl, rfl, SqL.of e4, hset, _, rfl, _, rfl, _, _, rfl, rfl, ba, _, _, _, rfl, rfl, SqL.of (s4 _ _ hb), at_of (j := j + 1) rfl (cl_get x y L M (i + 1) hj1), _, _, rfl, rfl, q, _, _, j, rfl, rfl, e4, ix_of' rfl (by rw [List.length_set, up_len]; exact hjl), ?_⟩
                refine ⟨⟨_, _, rfl⟩, s4.upd fq, ?_⟩
                rw [upd_same, set_set, ← up_set _ hjl, Cm.fc_go he hd hal g1 g2]
                show some (HO.lst ((up (Cm.fc x y L M i) M.length j).set j (V.int (1 + (Cm.fc x y L M (i + 1) (j + 1) : Int))))) = some (HO.lst ((up (Cm.fc x y L M i) M.length j).set j (V.int ((1 + Cm.fc x y L M (i + 1) (j + 1) : Nat) : Int))))
                rw [show (((1 + Cm.fc x y L M (i + 1) (j + 1) : Nat)) : Int) = 1 + (Cm.fc x y L M (i + 1) (j + 1) : Int) by omega]
              · exact ⟨⟨_, _, rfl⟩, s4, by rw [e4, stop fun z => c3 (hkh.mpr z.2)]⟩
            · exact iteF ⟨⟨_, _, rfl⟩, s4, by rw [e4, stop fun z => c2 (hkg.mpr z.1)]⟩
          · have hal : Vh.alikeAt x y i j = false := by
              cases z : Vh.alikeAt x y i j with
              | false => rfl
              | true => exact absurd (hka.mpr ((Cm.alikeAt_iff hlw hmw).mp z)) c1
            exact ⟨⟨_, _, rfl⟩, s3, by rw [e3, up_keep _ hjl (Cm.fc_unlike hal)]⟩
      · rintro σ H' ⟨⟨v6, v7, rfl⟩, s2, e2⟩
        refine ⟨_, rfl, k H' q s2 ?_⟩
        rw [e2, show avs.length = M.length by omega, up_full]
/-! ### greatest_move -/
theorem scGreatest : FnScope ["missing", "added", "greatest", "counts", "cell", "beside"] ["missing", "added"] (defScope sGreatest) := ⟨rfl, rfl, rfl, by decide +kernel, rfl, by decide +kernel, by decide +kernel⟩
theorem ok_greatest {f C CM fI fC : Addr} {fd fdI fdC : FuncData} (F : Fun K "greatest_move" "greatest_move" sGreatest f fd) (T : Txt K mg) (TR : TxtR K mg C) (TM : TxtM K mg CM) (MM : Mk K CM fI) (GI : FnOk P w K mg base CX0 1 fI fdI ["self", "base_start", "other_start", "count"] (spInitM CM)) (bI : Binds K fdI ["self", "base_start", "other_start", "count"] [])
    (GC : FnOk P w K mg base CX0 2 fC fdC ["missing", "added", "cell", "behind"] (spCountsAt C)) (uC : Use K mg "counts_at" fC fdC ["missing", "added", "cell", "behind"]) : FnOk P w K mg base CX0 3 f fd ["missing", "added"] (spGreatest C CM) := by
  refine F.ok scGreatest (fun vs H Q E h => ?_) (fun cdv A outer s H vs Q E hr h => ?_)
  · obtain ⟨ma, aa, c, n, c', n', x, y, L, M, rfl, _⟩ := h
    rfl
  · obtain ⟨ma, aa, c, n, c', n', x, y, L, M, rfl, rm, ra, rL, rM, hlL, hlM, k⟩ := h
    refine ⟨_, pss_cons (ps_set (i := 2) scGreatest.nd rfl (Or.inl rfl) (pe_make MM GI hr rfl TM.mgC bI .nil pass0 (pa_cons pe_int (pa_cons pe_int (pa_cons pe_int pa_nil)))))
      (pss_cons (ps_set (i := 3) scGreatest.nd rfl (Or.inl rfl) (pe_op op_rep (pe_lst (pa_cons pe_int pa_nil)) (plen T.len (pe_fld (pv 1) rfl))))
      (pss_cons (ps_for PassesOwn.never rfl (pi_range3 rfl T.range (pa_cons (pe_op op_sub (plen T.len (pe_fld (pv 0) rfl)) pe_int) (pa_cons (pe_un un_neg pe_int) (pa_cons (pe_un un_neg pe_int) pa_nil)))) (pg_name (i := 4) scGreatest.nd rfl (Or.inl rfl))
        (pss_cons (ps_set (i := 3) scGreatest.nd rfl (Or.inl rfl) (pe_call GC hr rfl uC.m uC.kp uC.b .nil pass0 (pa_cons (pv 0) (pa_cons (pv 1) (pa_cons (pv 4) (pa_cons (pv 3) pa_nil))))))
        (pss_one (ps_for PassesOwn.never rfl (pi_range3 rfl T.range (pa_cons (pe_op op_sub (plen T.len (pv 3)) pe_int) (pa_cons (pe_un un_neg pe_int) (pa_cons (pe_un un_neg pe_int) pa_nil)))) (pg_name (i := 5) scGreatest.nd rfl (Or.inl rfl))
          (pss_one (ps_if (pt_cmpR op_ge (pix (pv 3) (pv 5)) (pe_fld (pv 2) rfl) (nomark _))
            (pss_one (ps_set (i := 2) scGreatest.nd rfl (Or.inl rfl) (pe_make MM GI hr rfl TM.mgC bI .nil pass0 (pa_cons (pv 4) (pa_cons (pv 5) (pa_cons (pix (pv 3) (pv 5)) pa_nil)))))) pss_nil))))))
      (pss_one (ps_ret (pv 2))))), ?_⟩
    intro g0 dx0 nq0 ndx0 _
    refine ⟨g0, dx0, ⟨0, 0, 0⟩, rfl, upd_same, fun H1 eg0 kp0 => ⟨rfl, ?_⟩⟩
    have s1 : Same H H1 := Same.made nq0 ndx0 kp0
    have hg0 : MoveAt CM H1 g0 ⟨0, 0, 0⟩ := ⟨dx0, eg0⟩
    obtain ⟨⟨dm, hm1⟩, ⟨mvs, hm21, hm22, hm23⟩, hm3⟩ := id rm
    obtain ⟨⟨da, ha1⟩, ⟨avs, ha21, ha22, ha23⟩, ha3⟩ := id ra
    have lM := rM.len
    have lL := rL.len
    have hrn : ((avs.length : Nat) : Int).toNat = M.length := by omega
    refine ⟨(by show 1 ≤ sizeLine; decide), fun l0 hl0 => ?_⟩
    have s02 : Same H1 (upd H1 l0 (.lst [.int 0])) := (Same.refl H1).upd hl0
    refine ⟨_, rfl, aa, C, da, _, _, rfl, s02 _ _ (s1 _ _ ha1), TR.cl, TR.nC, rf_cells _ _, c', _, rfl, .inl (SqL.of (s02 _ _ (s1 _ _ ha21))), l0, _, _, rfl, rfl, upd_same, by omega, by omega, ?_, fun q hq => ?_⟩
    · rw [hrn]
      exact Nat.le_trans (show 1 * M.length ≤ 3000 by omega) (by decide)
    have s3' : Same H1 (upd (upd H1 l0 (.lst [.int 0])) q (.lst (List.replicate ((avs.length : Nat) : Int).toNat [V.int 0]).flatten)) := s02.trans ((Same.refl _).upd hq)
    have e3 : (upd (upd H1 l0 (.lst [.int 0])) q (.lst (List.replicate ((avs.length : Nat) : Int).toNat [V.int 0]).flatten)) q = some (.lst (cl x y L M L.length)) := by
      rw [upd_same, hrn, up_none (Cm.fc x y L M L.length), up_zero _ _ (fun j => Cm.fc_out (Nat.le_refl _)), up_full]
    generalize upd (upd H1 l0 (.lst [.int 0])) q (.lst (List.replicate ((avs.length : Nat) : Int).toNat [V.int 0]).flatten) = H3 at *
    have s3 : Same H H3 := s1.trans s3'
    refine ⟨_, rfl, ma, C, dm, _, _, rfl, s3 _ _ hm1, TR.cl, TR.nC, rf_cells _ _, c, _, rfl, .inl (SqL.of (s3 _ _ hm21)), _, _, rfl, rfl, _, rfl, _, rfl, _, _, _, _, rfl, RgC.neg (by omega) (by omega) (by omega) (by omega), ?_⟩
    have hn : ((mvs.length : Int) - 1 - -1).toNat = L.length := by omega
    refine for_rangeC (fun t σ H' => (∃ g q v4 v5 G, σ = [some (.ref ma), some (.ref aa), some (.ref g), some (.ref q), v4, v5] ∧ MoveAt CM H' g G ∧ Cm.Best (Cm.fc x y L M) (Cm.Aft L.length M.length (L.length - t) 0) G ∧ H' q = some (.lst (cl x y L M (L.length - t)))) ∧ Same H H')
      ⟨⟨g0, q, _, _, ⟨0, 0, 0⟩, rfl, hg0.same s3', Cm.best_none, e3⟩, s3⟩ ?_ ?_
    · rintro t σ H' ht ⟨⟨g, q', v4, v5, G, rfl, hG, hB, hq'⟩, s4⟩
      rw [hn] at ht
      obtain ⟨i, hi⟩ : ∃ i, i = L.length - 1 - t := ⟨_, rfl⟩
      have hil : i < L.length := by omega
      have z0 : (mvs.length : Int) - 1 + (t : Nat) * -1 = (i : Int) := by omega
      have em : L.length - t = i + 1 := by omega
      have em2 : L.length - (t + 1) = i := by omega
      rw [em] at hB hq'
      rw [em2]
      rw [z0]
      refine ⟨_, rfl, _, rfl, _, rfl, _, rfl, ma, aa, q', c, n, c', n', x, y, L, M, i, rfl, rm.same s4, ra.same s4, rL, rM, hil, hq', hlM, fun H5 q5 s5 hq5 => ?_⟩
      have s45 := s4.trans s5
      refine ⟨_, rfl, q5, _, rfl, .inl (SqL.of hq5), _, _, rfl, rfl, _, rfl, _, rfl, _, _, _, _, rfl, RgC.neg (by rw [cl_len]; omega) (by rw [cl_len]; omega) (by omega) (by omega), ?_⟩
      have hn2 : (((cl x y L M i).length : Int) - 1 - -1).toNat = M.length := by rw [cl_len]; omega
      refine for_rangeC (fun t σ H' => (∃ g v5 G, σ = [some (.ref ma), some (.ref aa), some (.ref g), some (.ref q5), some (nV i), v5] ∧ MoveAt CM H' g G ∧ Cm.Best (Cm.fc x y L M) (Cm.Aft L.length M.length i (M.length - t)) G) ∧ H' q5 = some (.lst (cl x y L M i)) ∧ Same H H')
        ⟨⟨g, _, G, rfl, hG.same s5, Cm.best_row hB⟩, hq5, s45⟩ ?_ ?_
      · rintro t2 σ H6 ht2 ⟨⟨g6, v5, G6, rfl, ⟨dg, hG6⟩, hB6⟩, hq6, s6⟩
        rw [hn2] at ht2
        obtain ⟨j, hj⟩ : ∃ j, j = M.length - 1 - t2 := ⟨_, rfl⟩
        have hjl : j < M.length := by omega
        have y0 : ((cl x y L M i).length : Int) - 1 + (t2 : Nat) * -1 = (j : Int) := by rw [cl_len]; omega
        have en : M.length - t2 = j + 1 := by omega
        have en2 : M.length - (t2 + 1) = j := by omega
        rw [en] at hB6
        rw [en2]
        rw [y0]
        have hB7 := Cm.best_add hil hjl hB6
        refine ⟨_, rfl, _, rfl, q5, _, _, _, rfl, rfl, SqL.of hq6, atI_nat (cl_get x y L M i hjl), _, rfl, g6, CM, dg, _, _, rfl, hG6, TM.cl, TM.nC, mf_count _, _, _, rfl, rfl, _, rfl, ite2 (fun c1 => ?_) (fun c1 => ?_)⟩
        · have c1 : (G6.n : Int) ≤ (Cm.fc x y L M i j : Int) := of_decide_eq_true c1
          rw [if_pos (by omega)] at hB7
          refine ⟨_, rfl, _, rfl, _, rfl, _, rfl, q5, _, _, _, rfl, rfl, SqL.of hq6, atI_nat (cl_get x y L M i hjl), ?_⟩
          intro g7 dx7 nq7 ndx7 _
          refine ⟨g7, dx7, ⟨i, j, Cm.fc x y L M i j⟩, rfl, upd_same, fun H7 eg7 kp7 => ⟨rfl, ?_⟩⟩
          have s7 : Same H6 H7 := Same.made nq7 ndx7 kp7
          have hg7 : MoveAt CM H7 g7 ⟨i, j, Cm.fc x y L M i j⟩ := ⟨dx7, eg7⟩
          exact ⟨⟨g7, _, _, rfl, hg7, hB7⟩, s7 _ _ hq6, s6.trans s7⟩
        · have c1 : ¬ (G6.n : Int) ≤ (Cm.fc x y L M i j : Int) := fun z => c1 (decide_eq_true z)
          rw [if_neg (by omega)] at hB7
          exact ⟨⟨g6, _, G6, rfl, ⟨dg, hG6⟩, hB7⟩, hq6, s6⟩
      · rintro σ H6 ⟨⟨g6, v5, G6, rfl, hG6, hB6⟩, hq6, s6⟩
        rw [hn2, Nat.sub_self] at hB6
        exact ⟨⟨g6, q5, _, _, G6, rfl, hG6, hB6, hq6⟩, s6⟩
    · rintro σ H' ⟨⟨g, q', v4, v5, G, rfl, hG, hB, hq'⟩, s4⟩
      rw [hn, Nat.sub_self] at hB
      exact ⟨_, rfl, k H' g G s4 hG hB⟩
end
end Co

set_option Elab.async false
set_option linter.all false
set_option maxRecDepth 100000
set_option maxHeartbeats 2000000
namespace Co
open PySem PySem.Spec PyProof.Rows L2
open PySem.W (Codec)
open Vh (Cell Letters pairCost leastCost stepCost judged)
theorem ct_set (L : List Cm.E) {i t : Nat} (h : i + t < L.length) : ((Cm.ctE i t 0 L).map eV).set (i + t) .non = (Cm.ctE i (t + 1) 0 L).map eV := by
  refine List.ext_getElem? fun j => ?_
  rw [List.getElem?_set, List.length_map, Cm.ctE_len, List.getElem?_map, List.getElem?_map, Cm.ctE_get, Cm.ctE_get, Nat.zero_add]
  by_cases e : i + t = j
  · subst e
    rw [if_pos rfl, if_pos h, List.getElem?_eq_getElem h, Option.map_some, Option.map_some, if_pos ⟨by omega, by omega⟩]
    rfl
  · rw [if_neg e]
    cases L[j]? with
    | none => rfl
    | some v =>
      simp only [Option.map_some]
      by_cases q : i ≤ j ∧ j < i + t
      · rw [if_pos q, if_pos (by omega)]
      · rw [if_neg q, if_neg (by omega)]
theorem ct_none (L : List Cm.E) (i : Nat) : Cm.ctE i 0 0 L = L := by
  refine List.ext_getElem? fun j => ?_
  rw [Cm.ctE_get]
  cases L[j]? with
  | none => rfl
  | some v => rw [Option.map_some, if_neg (by omega)]
/-! ### the promises -/
def spWithout (C : Addr) : Sp := fun vs H Q _ => ∃ (a c n : Addr) (x : List Cell) (L : List Cm.E) (i m : Nat), vs = [.ref a, nV i, nV m] ∧ RunsAt C H a c n x L ∧ L.length ≤ 3000 ∧ i + m ≤ L.length ∧
  ∀ (H' : Hp) (q n' : Addr), Same H H' → H n' = none → RunsAt C H' q c n' x (Cm.ctE i m 0 L) → Q (.ref q) H'
def MovesAt (CM : Addr) (H : Hp) (ls : Addr) (ms : List Vh.Move) : Prop := ∃ as : List Addr, H ls = some (.lst (as.map V.ref)) ∧ as.length = ms.length ∧ ∀ (k : Nat) (g : Vh.Move), ms[k]? = some g → ∃ p, as[k]? = some p ∧ MoveAt CM H p g
theorem MovesAt.same {C : Addr} {H H' : Hp} {ls : Addr} {ms : List Vh.Move} (s : Same H H') (h : MovesAt C H ls ms) : MovesAt C H' ls ms := by
  obtain ⟨as, h1, h2, h3⟩ := h
  exact ⟨as, s _ _ h1, h2, fun k g e => let ⟨p, q1, q2⟩ := h3 k g e; ⟨p, q1, q2.same s⟩⟩
def spMovesTold (K : PySem.W.Frag) (CM : Addr) : Sp := fun vs H Q _ => ∃ (b o t : Addr) (x y : List Cell) (s : List Nat), vs = [.ref b, .ref o, .ref t] ∧ CellsAt H b x ∧ CellsAt H o y ∧ SqL K H t (s.map nV) ∧ s.length ≤ 3000 ∧ x.length ≤ 3000 ∧ y.length ≤ 3000 ∧ (judged .plain x y s).isNone = false ∧
  ∀ (H' : Hp) (q : Addr), Same H H' → H q = none → MovesAt CM H' q (Vh.movesTold x y s) → (Vh.movesTold x y s).length ≤ 3001 → Q (.ref q) H'
def spMoves (K : PySem.W.Frag) : Sp := fun vs H Q _ => ∃ (a b t : Addr) (xs ys s : List Nat), vs = [.ref a, .ref b, .ref t] ∧ SqL K H a (xs.map nV) ∧ SqL K H b (ys.map nV) ∧ SqL K H t (s.map nV) ∧ xs.length ≤ 3000 ∧ ys.length ≤ 3000 ∧ s.length ≤ 3000 ∧
  ∀ (H' : Hp) (p : Addr), H' p = some (.lst ((Cm.dueMoves xs ys s).map V.int)) → Q (.ref p) H'
section
variable {P : Program} {w : World} {K : PySem.W.Frag} {mg : Str → Option Value} {base : Heap}
/-! ### without -/
theorem scWithout : FnScope ["runs", "start", "count", "numbers", "cell"] ["runs", "start", "count"] (defScope sWithout) := ⟨rfl, rfl, rfl, by decide +kernel, rfl, by decide +kernel, by decide +kernel⟩
theorem ok_without {f C fI : Addr} {fd fdI : FuncData} (F : Fun K "without" "without" sWithout f fd) (T : Txt K mg) (TR : TxtR K mg C) (MR : Mk K C fI) (GI : FnOk P w K mg base CX0 1 fI fdI ["self", "cells", "numbers"] (spInitR C)) (bI : Binds K fdI ["self", "cells", "numbers"] []) :
    FnOk P w K mg base CX0 3 f fd ["runs", "start", "count"] (spWithout C) := by
  refine F.ok scWithout (fun vs H Q E h => ?_) (fun cdv A outer s H vs Q E hr h => ?_)
  · obtain ⟨a, c, n, x, L, i, m, rfl, _⟩ := h
    rfl
  · obtain ⟨a, c, n, x, L, i, m, rfl, hR, hl, hm, k⟩ := h
    obtain ⟨⟨dx, h1⟩, h2, h3⟩ := id hR
    refine ⟨_, pss_cons (ps_set (i := 3) scWithout.nd rfl (Or.inl rfl) (pe_callTy call_list_of rfl T.list (by decide +kernel) (pa_cons (pe_fld (pv 0) rfl) pa_nil)))
      (pss_cons (ps_for PassesOwn.never rfl (pi_range2 rfl T.range (pa_cons (pv 1) (pa_cons (pe_op op_add (pv 1) (pv 2)) pa_nil))) (pg_name (i := 4) scWithout.nd rfl (Or.inl rfl))
        (pss_one (ps_asg pe_non (pg_sub (pv 3) (pv 4) set_list))))
      (pss_one (ps_ret (pe_make MR GI hr rfl TR.mgC bI .nil pass0 (pa_cons (pe_fld (pv 0) rfl) (pa_cons (pv 3) pa_nil)))))), ?_⟩
    refine ⟨_, rfl, a, C, dx, _, _, rfl, h1, TR.cl, TR.nN, rf_numbers _ _, n, _, rfl, .inl (SqL.of h3), fun l hl' => ?_⟩
    have s1 : Same H (upd H l (.lst (L.map eV))) := (Same.refl H).upd hl'
    refine ⟨_, rfl, _, rfl, _, rfl, _, _, rfl, rfl, (i : Int), (i : Int) + (m : Int), rfl, ⟨by omega, by omega, by omega, by omega⟩, ?_⟩
    have hn : (((i : Int) + (m : Int)) - (i : Int)).toNat = m := by omega
    refine for_range (lo := (i : Int)) (n := (((i : Int) + (m : Int)) - (i : Int)).toNat) (fun t σ H' => (∃ v, σ = [some (.ref a), some (nV i), some (nV m), some (.ref l), v]) ∧ Same H H' ∧ H' l = some (.lst ((Cm.ctE i t 0 L).map eV)))
      ⟨⟨_, rfl⟩, s1, by rw [upd_same, ct_none]⟩ ?_ ?_
    · rintro t σ H' ht ⟨⟨v, rfl⟩, s2, e⟩
      rw [hn] at ht
      refine ⟨_, rfl, _, rfl, l, _, _, i + t, rfl, rfl, e, ix_of' (by omega) (by rw [List.length_map, Cm.ctE_len]; omega), ?_⟩
      refine ⟨⟨_, rfl⟩, s2.upd hl', ?_⟩
      rw [upd_same, ct_set L (by omega)]
    · rintro σ H' ⟨⟨v, rfl⟩, s2, e⟩
      rw [hn] at e
      refine ⟨_, rfl, a, C, dx, _, _, rfl, s2 _ _ h1, TR.cl, TR.nC, rf_cells _ _, _, rfl, ?_⟩
      exact make_runs (h2.same s2) e fun H3 q s3 _ hq => k H3 q l (s2.trans s3) hl' hq
/-! ### moves_told -/
theorem scMovesTold : FnScope ["base", "other", "told", "missing", "added", "moves", "move"] ["base", "other", "told"] (defScope sMovesTold) := ⟨rfl, rfl, rfl, by decide +kernel, rfl, by decide +kernel, by decide +kernel⟩
theorem taken_x (u : Nat) (h : u < 7) : takenX[u]? = some (if Vh.takesXOne u = true then 1 else 0) := by
  rcases u with _ | _ | _ | _ | _ | _ | _ | u <;> first | rfl | omega
theorem taken_y (u : Nat) (h : u < 7) : takenY[u]? = some (if Vh.takesYOne u = true then 1 else 0) := by
  rcases u with _ | _ | _ | _ | _ | _ | _ | u <;> first | rfl | omega
theorem ok_movesTold {f C CM CP tb to fI fN fG fW : Addr} {fd fdI fdN fdG fdW : FuncData} (F : Fun K "moves_told" "moves_told" sMovesTold f fd) (TP : TxtP K mg CP tb to) (TR : TxtR K mg C) (TM : TxtM K mg CM) (cS : ∃ t, mg "SHORTEST_MOVE" = some (.int 2 t)) (MR : Mk K C fI) (GI : FnOk P w K mg base CX0 1 fI fdI ["self", "cells", "numbers"] (spInitR C)) (bI : Binds K fdI ["self", "cells", "numbers"] [])
    (GN : FnOk P w K mg base CX0 1 fN fdN ["told", "kind", "taken"] (spRunNos K)) (uN : Use K mg "run_numbers" fN fdN ["told", "kind", "taken"]) (GG : FnOk P w K mg base CX0 3 fG fdG ["missing", "added"] (spGreatest C CM)) (uG : Use K mg "greatest_move" fG fdG ["missing", "added"])
    (GW : FnOk P w K mg base CX0 3 fW fdW ["runs", "start", "count"] (spWithout C)) (uW : Use K mg "without" fW fdW ["runs", "start", "count"]) :
    FnOk P w K mg base CX0 4 f fd ["base", "other", "told"] (spMovesTold K CM) := by
  refine F.ok scMovesTold (fun vs H Q E h => ?_) (fun cdv A outer s H vs Q E hr h => ?_)
  · obtain ⟨b, o, t, x, y, st, rfl, _⟩ := h
    rfl
  · obtain ⟨b, o, t, x, y, st, rfl, hb, ho, ht, hlt, hlx, hly, hj, k⟩ := h
    have hr2 : Room 2 _ := hr.mono (by decide)
    have hr1 : Room 1 _ := hr.mono (by decide)
    refine ⟨_, pss_cons (ps_set (i := 3) scMovesTold.nd rfl (Or.inl rfl) (pe_make MR GI hr2 rfl TR.mgC bI .nil pass0 (pa_cons (pv 0) (pa_cons (pe_call GN hr1 rfl uN.m uN.kp uN.b .nil pass0 (pa_cons (pv 2) (pa_cons (pgl TP.missing) (pa_cons (pgr TP.bt) pa_nil)))) pa_nil))))
      (pss_cons (ps_set (i := 4) scMovesTold.nd rfl (Or.inl rfl) (pe_make MR GI hr2 rfl TR.mgC bI .nil pass0 (pa_cons (pv 1) (pa_cons (pe_call GN hr1 rfl uN.m uN.kp uN.b .nil pass0 (pa_cons (pv 2) (pa_cons (pgl TP.added) (pa_cons (pgr TP.ot) pa_nil)))) pa_nil))))
      (pss_cons (ps_set (i := 5) scMovesTold.nd rfl (Or.inl rfl) (pe_lst pa_nil))
      (pss_cons (ps_set (i := 6) scMovesTold.nd rfl (Or.inl rfl) (pe_call GG hr rfl uG.m uG.kp uG.b .nil pass0 (pa_cons (pv 3) (pa_cons (pv 4) pa_nil))))
      (pss_cons (ps_while PassesOwn.never (pt_cmpR op_ge (pe_fld (pv 6) rfl) (pgl cS) (nomark _))
        (pss_cons (ps_expr (pe_bm PySem.F.plainAttrs_list PySem.F.slot_list_append PySem.F.type_list_append mt_append (pv 5) (pa_cons (pv 6) pa_nil)))
        (pss_cons (ps_set (i := 3) scMovesTold.nd rfl (Or.inl rfl) (pe_call GW hr rfl uW.m uW.kp uW.b .nil pass0 (pa_cons (pv 3) (pa_cons (pe_fld (pv 6) rfl) (pa_cons (pe_fld (pv 6) rfl) pa_nil)))))
        (pss_cons (ps_set (i := 4) scMovesTold.nd rfl (Or.inl rfl) (pe_call GW hr rfl uW.m uW.kp uW.b .nil pass0 (pa_cons (pv 4) (pa_cons (pe_fld (pv 6) rfl) (pa_cons (pe_fld (pv 6) rfl) pa_nil)))))
        (pss_one (ps_set (i := 6) scMovesTold.nd rfl (Or.inl rfl) (pe_call GG hr rfl uG.m uG.kp uG.b .nil pass0 (pa_cons (pv 3) (pa_cons (pv 4) pa_nil)))))))))
      (pss_one (ps_ret (pv 5))))))), ?_⟩
    have lt7 := Cm.judged_lt st _ x y hj
    have rX := Cm.runs_x hj
    have rY := Cm.runs_y hj
    refine ⟨_, rfl, _, rfl, t, tb, st, 3, Vh.takesXOne, takenX, rfl, ht, TP.btv, (fun u hu => taken_x u (lt7 u hu)), hlt, fun H1 n1 s1 hn1 => ?_⟩
    intro m2 dx2 nq2 ndx2 _
    refine ⟨m2, dx2, b, n1, rfl, upd_same, fun H2 em2 kp2 => ⟨rfl, ?_⟩⟩
    have s2 : Same H1 H2 := Same.made nq2 ndx2 kp2
    have hm2 : RunsAt C H2 m2 b n1 x (Cm.LX st) := ⟨⟨dx2, em2⟩, (hb.same s1).same s2, s2 _ _ hn1⟩
    have s02 := s1.trans s2
    refine ⟨_, rfl, _, rfl, t, to, st, 4, Vh.takesYOne, takenY, rfl, s02.seq ht, TP.otv, (fun u hu => taken_y u (lt7 u hu)), hlt, fun H3 n3 s3 hn3 => ?_⟩
    have s03 := s02.trans s3
    intro a4 dx4 nq4 ndx4 _
    refine ⟨a4, dx4, o, n3, rfl, upd_same, fun H4 em4 kp4 => ⟨rfl, ?_⟩⟩
    have s4 : Same H3 H4 := Same.made nq4 ndx4 kp4
    have ha4 : RunsAt C H4 a4 o n3 y (Cm.LY st) := ⟨⟨dx4, em4⟩, (ho.same s03).same s4, s4 _ _ hn3⟩
    have s04 := s03.trans s4
    have hm4 := (hm2.same s3).same s4
    refine ⟨Nat.zero_le _, fun ls hls => ?_⟩
    have fls : H ls = none := s04.free hls
    have s45 : Same H4 (upd H4 ls (.lst [])) := (Same.refl H4).upd hls
    have nm : n1 ≠ ls := ne_of_none hm4.2.2 hls
    have na : n3 ≠ ls := ne_of_none ha4.2.2 hls
    have s05 : Same H (upd H4 ls (.lst [])) := s04.upd fls
    have lX := rX.len
    have lY := rY.len
    refine ⟨_, rfl, _, rfl, m2, a4, b, n1, o, n3, x, y, Cm.LX st, Cm.LY st, rfl, hm4.same s45, ha4.same s45, rX, rY, by omega, by omega, fun H6 g6 G6 s6 hG6 hB6 => ?_⟩
    refine ⟨fun f σ H' => ∃ (ma aa mv n n' : Addr) (L M : List Cm.E) (G : Vh.Move) (ms : List Vh.Move), σ = [some (.ref b), some (.ref o), some (.ref t), some (.ref ma), some (.ref aa), some (.ref ls), some (.ref mv)] ∧ Same H H' ∧ RunsAt C H' ma b n x L ∧ RunsAt C H' aa o n' y M ∧ n ≠ ls ∧ n' ≠ ls ∧ Cm.RunsOk x L ∧ Cm.RunsOk y M ∧
        MoveAt CM H' mv G ∧ Cm.Best (Cm.fc x y L M) (Cm.Aft L.length M.length 0 0) G ∧ MovesAt CM H' ls ms ∧ (Cm.wl L 0).length < f ∧ ms.length + f ≤ st.length + 1 ∧ Vh.movesTold x y st = ms ++ Vh.movesFrom x y f (Cm.wl L 0) (Cm.wl M 0),
      ⟨st.length + 1, m2, a4, g6, n1, n3, Cm.LX st, Cm.LY st, G6, [], rfl, s05.trans s6, (hm4.same s45).same s6, (ha4.same s45).same s6, nm, na, rX, rY, hG6, hB6, ⟨[], s6 _ _ upd_same, rfl, fun k g e => by cases e⟩, Cm.told_fuel st, by simp, Cm.told_eq x y st⟩, ?_⟩
    rintro f σ H' ⟨ma, aa, mv, n, n', L, M, G, ms, rfl, sH, hma, haa, hn, hn', rL, rM, hG, hB, hms, hf, hmf, hto⟩
    obtain ⟨dg, hG1⟩ := id hG
    have lL := rL.len
    have lM := rM.len
    refine ⟨_, rfl, mv, CM, dg, _, _, rfl, hG1, TM.cl, TM.nC, mf_count _, _, _, rfl, rfl, _, rfl, ite2 (fun c1 => ?_) (fun c1 => ?_)⟩
    · have c1 : (2 : Int) ≤ (G.n : Int) := of_decide_eq_true c1
      have c1 : 2 ≤ G.n := by omega
      obtain ⟨f', rfl⟩ : ∃ f', f = f' + 1 := ⟨f - 1, by omega⟩
      obtain ⟨i1, i2, ea, hea⟩ := Cm.best_in hB c1
      rw [Cm.told_go rL.inc rM.inc hB c1] at hto
      have hless := Cm.cut_less hea (show 1 ≤ G.n by omega)
      obtain ⟨as, hms1, hms2, hms3⟩ := hms
      refine ⟨fun σ' H'' => ∃ (ma aa mv n n' : Addr) (L M : List Cm.E) (G : Vh.Move) (ms : List Vh.Move), σ' = [some (.ref b), some (.ref o), some (.ref t), some (.ref ma), some (.ref aa), some (.ref ls), some (.ref mv)] ∧ Same H H'' ∧ RunsAt C H'' ma b n x L ∧ RunsAt C H'' aa o n' y M ∧ n ≠ ls ∧ n' ≠ ls ∧ Cm.RunsOk x L ∧ Cm.RunsOk y M ∧
        MoveAt CM H'' mv G ∧ Cm.Best (Cm.fc x y L M) (Cm.Aft L.length M.length 0 0) G ∧ MovesAt CM H'' ls ms ∧ (Cm.wl L 0).length < f' ∧ ms.length + f' ≤ st.length + 1 ∧ Vh.movesTold x y st = ms ++ Vh.movesFrom x y f' (Cm.wl L 0) (Cm.wl M 0),
        fun σ' H'' h => ⟨f', Nat.lt_succ_self _, h⟩, ?_⟩
      refine ⟨_, rfl, .inl ⟨rfl, _, SqL.of hms1⟩, _, rfl, ls, _, _, rfl, rfl, hms1, ?_, ?_⟩
      · rw [List.length_map, hms2]
        exact Nat.lt_of_le_of_lt (show ms.length ≤ 3001 by omega) (by decide)
      have sH7 : Same H (upd H' ls (.lst (as.map V.ref ++ [V.ref mv]))) := sH.upd fls
      have keepR : ∀ {a c n : Addr} {x : List Cell} {L : List Cm.E}, CellsAt H c x → n ≠ ls → RunsAt C H' a c n x L → RunsAt C (upd H' ls (.lst (as.map V.ref ++ [V.ref mv]))) a c n x L := fun hc hnn ⟨⟨dx, e1⟩, e2, e3⟩ =>
        ⟨⟨dx, by rw [upd_ne (ne_of e1 hms1 (by intro z; cases z))]; exact e1⟩, hc.same sH7, by rw [upd_ne hnn]; exact e3⟩
      have keepM : ∀ {a : Addr} {g : Vh.Move}, MoveAt CM H' a g → MoveAt CM (upd H' ls (.lst (as.map V.ref ++ [V.ref mv]))) a g := fun ⟨dx, e1⟩ => ⟨dx, by rw [upd_ne (ne_of e1 hms1 (by intro z; cases z))]; exact e1⟩
      have hma7 := keepR hb hn hma
      have haa7 := keepR ho hn' haa
      have hG7 := keepM hG
      have hms7 : MovesAt CM (upd H' ls (.lst (as.map V.ref ++ [V.ref mv]))) ls (ms ++ [G]) := by
        refine ⟨as ++ [mv], by rw [upd_same, List.map_append]; rfl, by rw [List.length_append, List.length_append, hms2]; rfl, fun k g e => ?_⟩
        by_cases hk : k < ms.length
        · rw [List.getElem?_append_left hk] at e
          obtain ⟨p, q1, q2⟩ := hms3 k g e
          exact ⟨p, by rw [List.getElem?_append_left (by omega)]; exact q1, keepM q2⟩
        · have hk2 : k = ms.length := by
            have := (List.getElem?_eq_some_iff.mp e).1
            rw [List.length_append] at this
            simp at this
            omega
          rw [hk2, List.getElem?_append_right (Nat.le_refl _), Nat.sub_self] at e
          have e : G = g := by simpa using e
          subst e
          exact ⟨mv, by rw [hk2, List.getElem?_append_right (by omega), show ms.length - as.length = 0 by omega]; rfl, hG7⟩
      have els : (upd H' ls (.lst (as.map V.ref ++ [V.ref mv]))) ls = some (.lst (as.map V.ref ++ [V.ref mv])) := upd_same
      generalize upd H' ls (.lst (as.map V.ref ++ [V.ref mv])) = H7 at *
      obtain ⟨dg7, hG71⟩ := id hG7
      refine ⟨_, rfl, _, rfl, mv, CM, dg7, _, _, rfl, hG71, TM.cl, TM.nB, mf_base _, _, rfl, mv, CM, dg7, _, _, rfl, hG71, TM.cl, TM.nC, mf_count _, ma, b, n, x, L, G.x, G.n, rfl, hma7, by omega, i1, fun H8 m8 n8 s8 fn8 hm8 => ?_⟩
      have nn8 : n8 ≠ ls := fun z => by rw [z, els] at fn8; cases fn8
      have els8 := s8 _ _ els
      refine ⟨_, rfl, _, rfl, mv, CM, dg7, _, _, rfl, s8 _ _ hG71, TM.cl, TM.nO, mf_other _, _, rfl, mv, CM, dg7, _, _, rfl, s8 _ _ hG71, TM.cl, TM.nC, mf_count _, aa, o, n', y, M, G.y, G.n, rfl, haa7.same s8, by omega, i2, fun H9 a9 n9 s9 fn9 ha9 => ?_⟩
      have nn9 : n9 ≠ ls := fun z => by rw [z, els8] at fn9; cases fn9
      have rL9 := rL.cut G.x G.n
      have rM9 := rM.cut G.y G.n
      refine ⟨_, rfl, _, rfl, m8, a9, b, n8, o, n9, x, y, Cm.ctE G.x G.n 0 L, Cm.ctE G.y G.n 0 M, rfl, hm8.same s9, ha9, rL9, rM9, by rw [Cm.ctE_len]; omega, by rw [Cm.ctE_len]; omega, fun H10 g10 G10 s10 hG10 hB10 => ?_⟩
      have s8_10 := (s8.trans s9).trans s10
      refine ⟨m8, a9, g10, n8, n9, _, _, G10, ms ++ [G], rfl, sH7.trans s8_10, (hm8.same s9).same s10, ha9.same s10, nn8, nn9, rL9, rM9, hG10, hB10, hms7.same s8_10, by omega, ?_, ?_⟩
      · rw [List.length_append]
        show ms.length + 1 + f' ≤ _
        omega
      · rw [hto, List.append_assoc]
        rfl
    · have c1 : ¬ (2 : Int) ≤ (G.n : Int) := fun z => c1 (decide_eq_true z)
      rw [Cm.told_stop rL.inc rM.inc hB (by omega), List.append_nil] at hto
      rw [← hto] at hms
      exact ⟨_, rfl, k H' ls sH fls hms (by rw [hto]; omega)⟩
/-! ### moves -/
theorem scMoves : FnScope ["x", "y", "s", "refused", "base", "other", "answer", "move"] ["x", "y", "s"] (defScope sMoves) := ⟨rfl, rfl, rfl, by decide +kernel, rfl, by decide +kernel, by decide +kernel⟩
def flat3 (ms : List Vh.Move) : List Int := ms.flatMap fun (m : Vh.Move) => [(m.x : Int), (m.y : Int), (m.n : Int)]
theorem flat3_len : ∀ ms : List Vh.Move, (flat3 ms).length = 3 * ms.length
  | [] => rfl
  | m :: ms => by
    have := flat3_len ms
    unfold flat3 at *
    rw [List.flatMap_cons, List.length_append, this]
    simp
    omega
theorem flat3_snoc (ms : List Vh.Move) (g : Vh.Move) : flat3 (ms ++ [g]) = flat3 ms ++ [(g.x : Int), (g.y : Int), (g.n : Int)] := by
  unfold flat3
  rw [List.flatMap_append]
  rfl
theorem ok_moves {f CM fR fC fS fM : Addr} {fd fdR fdC fdS fdM : FuncData} (F : Fun K "moves" "moves" sMoves f fd) (TM : TxtM K mg CM) (noC : ∃ t, mg "NO_COLLATION" = some (.int (-6) t)) (GR : FnOk P w K mg base CX0 4 fR fdR ["x", "y"] (spRows K)) (uR : Use K mg "rows_refusal" fR fdR ["x", "y"])
    (GC : FnOk P w K mg base CX0 3 fC fdC ["numbers"] (spCells K)) (uC : Use K mg "row_cells" fC fdC ["numbers"]) (GS : FnOk P w K mg base CX0 4 fS fdS ["base", "other", "told"] (spStepsCost K)) (uS : Use K mg "steps_cost" fS fdS ["base", "other", "told"])
    (GM : FnOk P w K mg base CX0 4 fM fdM ["base", "other", "told"] (spMovesTold K CM)) (uM : Use K mg "moves_told" fM fdM ["base", "other", "told"]) :
    FnOk P w K mg base CX0 5 f fd ["x", "y", "s"] (spMoves K) := by
  refine F.ok scMoves (fun vs H Q E h => ?_) (fun cdv A outer s H vs Q E hr h => ?_)
  · obtain ⟨a, b, t, xs, ys, st, rfl, _⟩ := h
    rfl
  · obtain ⟨a, b, t, xs, ys, st, rfl, hx, hy, ht, lx, ly, lt, k⟩ := h
    have hr3 : Room 3 _ := hr.mono (by decide)
    refine ⟨_, pss_cons (ps_set (i := 3) scMoves.nd rfl (Or.inl rfl) (pe_call GR hr rfl uR.m uR.kp uR.b .nil pass0 (pa_cons (pv 0) (pa_cons (pv 1) pa_nil))))
      (pss_cons (ps_if (pt_cmpR op_lt (pv 3) pe_int (nomark _)) (pss_one (ps_ret (pe_lst (pa_cons (pv 3) pa_nil)))) pss_nil)
      (pss_cons (ps_set (i := 4) scMoves.nd rfl (Or.inl rfl) (pe_call GC hr3 rfl uC.m uC.kp uC.b .nil pass0 (pa_cons (pv 0) pa_nil)))
      (pss_cons (ps_set (i := 5) scMoves.nd rfl (Or.inl rfl) (pe_call GC hr3 rfl uC.m uC.kp uC.b .nil pass0 (pa_cons (pv 1) pa_nil)))
      (pss_cons (ps_if (pt_cmpR op_eq (pe_call GS hr rfl uS.m uS.kp uS.b .nil pass0 (pa_cons (pv 4) (pa_cons (pv 5) (pa_cons (pv 2) pa_nil)))) (pgl noC) (nomark _)) (pss_one (ps_ret (pe_lst (pa_cons (pgl noC) pa_nil)))) pss_nil)
      (pss_cons (ps_set (i := 6) scMoves.nd rfl (Or.inl rfl) (pe_lst pa_nil))
      (pss_cons (ps_for PassesOwn.never rfl (pi_list (pe_call GM hr rfl uM.m uM.kp uM.b .nil pass0 (pa_cons (pv 4) (pa_cons (pv 5) (pa_cons (pv 2) pa_nil))))) (pg_name (i := 7) scMoves.nd rfl (Or.inl rfl))
        (pss_one (ps_expr (pe_bm PySem.F.plainAttrs_list PySem.F.slot_list_extend PySem.F.type_list_extend mt_extend (pv 6) (pa_cons (pe_lst (pa_cons (pe_fld (pv 7) rfl) (pa_cons (pe_fld (pv 7) rfl) (pa_cons (pe_fld (pv 7) rfl) pa_nil)))) pa_nil)))))
      (pss_one (ps_ret (pv 6))))))))), ?_⟩
    refine ⟨_, rfl, _, rfl, a, b, xs, ys, rfl, hx, hy, lx, ly, ?_⟩
    refine ⟨_, rfl, _, _, rfl, rfl, _, rfl, ite2 (fun hc => ?_) (fun hc => ?_)⟩
    · have hc : (if Cm.refusal xs < 0 then Cm.refusal xs else Cm.refusal ys) < 0 := of_decide_eq_true hc
      refine ⟨_, rfl, (by show 1 ≤ sizeLine; decide), fun p hp => k _ p ?_⟩
      rw [upd_same]
      unfold Cm.dueMoves Cm.ofDue
      by_cases h1 : Cm.refusal xs < 0
      · rw [if_pos h1, if_pos h1]; rfl
      · rw [if_neg h1] at hc
        rw [if_neg h1, if_neg h1, if_pos hc]; rfl
    · have hc : ¬ (if Cm.refusal xs < 0 then Cm.refusal xs else Cm.refusal ys) < 0 := fun z => hc (decide_eq_true z)
      have h1 : ¬ Cm.refusal xs < 0 := fun z => by rw [if_pos z] at hc; exact hc z
      rw [if_neg h1] at hc
      obtain ⟨cx, ex⟩ := Cm.refusal_some h1
      obtain ⟨cy, ey⟩ := Cm.refusal_some hc
      have l1 := Cm.parse_len _ _ _ ex
      have l2 := Cm.parse_len _ _ _ ey
      have edue : Cm.dueMoves xs ys st = if (judged .plain cx cy st).isNone = true then [-6] else flat3 (Vh.movesTold cx cy st) := by
        unfold Cm.dueMoves Cm.ofDue
        rw [if_neg h1, if_neg hc, ex, ey]
        rfl
      rw [edue] at k
      refine ⟨_, rfl, a, xs, cx, rfl, hx, lx, ex, fun H1 q1 s1 hq1 => ?_⟩
      refine ⟨_, rfl, b, ys, cy, rfl, s1.seq hy, ly, ey, fun H2 q2 s2 hq2 => ?_⟩
      have s02 := s1.trans s2
      refine ⟨_, rfl, _, rfl, _, rfl, q1, q2, t, cx, cy, st, rfl, hq1.same s2, hq2, s02.seq ht, lt, fun H3 s3 => ?_⟩
      have s03 := s02.trans s3
      refine ⟨rfl, _, rfl, ?_⟩
      cases hjd : judged .plain cx cy st with
      | none =>
        rw [hjd] at k
        refine iteY ((dec_V _ _).mpr rfl) ?_
        exact ⟨(by show 1 ≤ sizeLine; decide), fun p hp => k _ p upd_same⟩
      | some cc =>
        have hnn : (judged .plain cx cy st).isNone = false := by rw [hjd]; rfl
        rw [hnn, if_neg (by exact Bool.noConfusion)] at k
        refine iteN (fun z => by have z : ((cc : Nat) : Int) = -6 := (dec_V _ _).mp z; omega) ?_
        refine ⟨Nat.zero_le _, fun l hl => ?_⟩
        have s34 : Same H3 (upd H3 l (.lst [])) := (Same.refl H3).upd hl
        have e4 : (upd H3 l (.lst [])) l = some (.lst []) := upd_same
        generalize upd H3 l (.lst []) = H4 at *
        have s04 := s03.trans s34
        refine ⟨_, rfl, _, rfl, _, rfl, q1, q2, t, cx, cy, st, rfl, (hq1.same s2).same (s3.trans s34), hq2.same (s3.trans s34), s04.seq ht, lt, by omega, by omega, hnn, fun H5 ls s5 fls hms hml => ?_⟩
        obtain ⟨as, hms1, hms2, hms3⟩ := hms
        have nl : ls ≠ l := fun z => by rw [z, e4] at fls; cases fls
        refine ⟨ls, rfl, ⟨_, SqL.of hms1⟩, ?_⟩
        refine for_list (K := K) (a := ls) (xs := as.map V.ref) (fun n σ H' => (∃ v, σ = [some (.ref a), some (.ref b), some (.ref t), some (.int (if Cm.refusal xs < 0 then Cm.refusal xs else Cm.refusal ys)), some (.ref q1), some (.ref q2), some (.ref l), v]) ∧ (∀ (c : Addr) (o : HO), c ≠ l → H5 c = some o → H' c = some o) ∧ H' l = some (.lst ((flat3 ((Vh.movesTold cx cy st).take n)).map V.int)))
          ⟨⟨_, rfl⟩, (fun b o _ e => e), s5 _ _ e4⟩ (fun n σ H' _ ⟨_, b6, _⟩ => SqL.of (b6 _ _ nl hms1)) ?_ ?_
        · rintro n v σ H' hv ⟨⟨v7, rfl⟩, b6, e6⟩
          obtain ⟨p, hp, rfl⟩ : ∃ p, as[n]? = some p ∧ v = .ref p := by
            rw [List.getElem?_map] at hv
            cases z : as[n]? with
            | none => rw [z] at hv; cases hv
            | some p => rw [z] at hv; exact ⟨p, rfl, (Option.some.inj hv).symm⟩
          have hnl : n < (Vh.movesTold cx cy st).length := by
            have := (List.getElem?_eq_some_iff.mp hp).1
            omega
          obtain ⟨g, hg⟩ : ∃ g, (Vh.movesTold cx cy st)[n]? = some g := ⟨_, List.getElem?_eq_getElem hnl⟩
          obtain ⟨p', hp', dg, hgm⟩ := hms3 n g hg
          rw [hp] at hp'
          cases hp'
          have hl5 := s5 _ _ e4
          have hgm6 : H' p = some (.ins CM dg (mf g)) := b6 _ _ (ne_of hgm hl5 (by intro z; cases z)) hgm
          have ltk : ((flat3 ((Vh.movesTold cx cy st).take n)).map V.int).length ≤ 9003 := by
            rw [List.length_map, flat3_len, List.length_take]
            omega
          refine ⟨_, rfl, .inl ⟨rfl, _, SqL.of e6⟩, _, rfl, p, CM, dg, _, _, rfl, hgm6, TM.cl, TM.nB, mf_base _, _, rfl, p, CM, dg, _, _, rfl, hgm6, TM.cl, TM.nO, mf_other _, _, rfl, p, CM, dg, _, _, rfl, hgm6, TM.cl, TM.nC, mf_count _, (by show 3 ≤ sizeLine; decide), fun z hz => ?_⟩
          have nz : l ≠ z := ne_of_none e6 hz
          refine ⟨l, z, _, _, rfl, rfl, by rw [upd_ne nz]; exact e6, upd_same, Nat.le_trans (show _ ≤ 9003 + 3 from Nat.add_le_add_right ltk 3) (by decide), ?_⟩
          refine ⟨⟨_, rfl⟩, fun c o hc e => ?_, ?_⟩
          · rw [upd_ne hc, upd_ne (ne_of_none (b6 _ _ hc e) hz)]
            exact b6 _ _ hc e
          · rw [upd_same, List.take_add_one, hg]
            show _ = some (HO.lst ((flat3 ((Vh.movesTold cx cy st).take n ++ [g])).map V.int))
            rw [flat3_snoc, List.map_append]
            rfl
        · rintro σ H' ⟨⟨v7, rfl⟩, b6, e6⟩
          rw [List.length_map, hms2, List.take_length] at e6
          exact ⟨_, rfl, k H' l e6⟩
end
end Co

set_option Elab.async false
set_option linter.all false
set_option maxRecDepth 100000
set_option maxHeartbeats 2000000
namespace Co
open PySem PySem.Spec PyProof.Rows L2
open PySem.W (Codec)
open Vh (Cell Letters pairCost leastCost)
/-! ### what the top has written, and the row's head -/
theorem all_mk {P : Program} {w : World} {K : PySem.W.Frag} {h : Heap} {mg : Str → Option Value} {fa f1 f2 f3 f4 f5 f6 f7 f8 f9 f10 f11 f12 f13 f14 f15 f16 f17 f18 f19 f20 f21 f22 f23 f24 fIP fIR fIM CP CR CM tb to : Addr} (X : K.In h) (G : h.Ns mainGlobals mg) (hfa : mg "moves" = some (.ref fa))
    {od1 an1 od2 an2 od3 an3 od4 an4 od5 an5 od6 an6 od7 an7 od8 an8 od9 an9 od10 an10 od11 an11 od12 an12 od13 an13 od14 an14 od15 an15 od16 an16 od17 an17 od18 an18 od19 an19 od20 an20 od21 an21 od22 an22 od23 an23 od24 an24 odIP anIP odIR anIR odIM anIM odb odo : Option Addr} {sl1 sl2 sl3 sl4 sl5 sl6 sl7 sl8 sl9 sl10 sl11 sl12 sl13 sl14 sl15 sl16 sl17 sl18 sl19 sl20 sl21 sl22 sl23 sl24 slIP slIR slIM slb slo : Array (Option Value)} {oc1 kV1 dc1 pm1 cd1 ct1 oc2 kV2 dc2 pm2 cd2 ct2 oc3 kV3 dc3 pm3 cd3 ct3 oc4 kV4 dc4 pm4 cd4 ct4 oc5 kV5 dc5 pm5 cd5 ct5 oc6 kV6 dc6 pm6 cd6 ct6 oc7 kV7 dc7 pm7 cd7 ct7 oc8 kV8 dc8 pm8 cd8 ct8 oc9 kV9 dc9 pm9 cd9 ct9 oc10 kV10 dc10 pm10 cd10 ct10 oc11 kV11 dc11 pm11 cd11 ct11 oc12 kV12 dc12 pm12 cd12 ct12 oc13 kV13 dc13 pm13 cd13 ct13 oc14 kV14 dc14 pm14 cd14 ct14 oc15 kV15 dc15 pm15 cd15 ct15 oc16 kV16 dc16 pm16 cd16 ct16 oc17 kV17 dc17 pm17 cd17 ct17 oc18 kV18 dc18 pm18 cd18 ct18 oc19 kV19 dc19 pm19 cd19 ct19 oc20 kV20 dc20 pm20 cd20 ct20 oc21 kV21 dc21 pm21 cd21 ct21 oc22 kV22 dc22 pm22 cd22 ct22 oc23 kV23 dc23 pm23 cd23 ct23 oc24 kV24 dc24 pm24 cd24 ct24 ocIP kVIP dcIP pmIP cdIP ctIP ocIR kVIR dcIR pmIR cdIR ctIR ocIM kVIM dcIM pmIM cdIM ctIM : Value} {t_gap t_lost t_lend t_longest t_mostN t_mostC t_noRow t_tooMany t_alike t_fit t_unlike t_alone t_pair t_lostW t_spared t_missing t_added t_bgap t_ogap t_noC t_short tb0 to0 tb1 to1 tb2 to2 tb3 to3 tb4 to4 tb5 to5 tb6 to6 : Tok}
    {nb no : Nat}
    (aP : PySem.W.nsIn K mainGlobals "Place" = some (some (.ref CP)))
    (aIP : PySem.W.findIn K (.ref CP) "__init__" = some (some (.ref fIP)))
    (iIP : PySem.W.isFn K (.ref fIP) = true)
    (lIP : K.lookup fIP = some ⟨ocIP, odIP, .func (PySem.W.fnOf "__init__" "Place.__init__" (defArgs sInitP) (defBody sInitP) (defScope sInitP) .none kVIP dcIP pmIP anIP cdIP ctIP), slIP⟩)
    (cIP : PySem.W.codeIn K cdIP "Place.__init__" = true)
    (kIP : PySem.W.keepIn K (.ref fIP) = true)
    (aR : PySem.W.nsIn K mainGlobals "Runs" = some (some (.ref CR)))
    (aIR : PySem.W.findIn K (.ref CR) "__init__" = some (some (.ref fIR)))
    (iIR : PySem.W.isFn K (.ref fIR) = true)
    (lIR : K.lookup fIR = some ⟨ocIR, odIR, .func (PySem.W.fnOf "__init__" "Runs.__init__" (defArgs sInitR) (defBody sInitR) (defScope sInitR) .none kVIR dcIR pmIR anIR cdIR ctIR), slIR⟩)
    (cIR : PySem.W.codeIn K cdIR "Runs.__init__" = true)
    (kIR : PySem.W.keepIn K (.ref fIR) = true)
    (aM : PySem.W.nsIn K mainGlobals "Move" = some (some (.ref CM)))
    (aIM : PySem.W.findIn K (.ref CM) "__init__" = some (some (.ref fIM)))
    (iIM : PySem.W.isFn K (.ref fIM) = true)
    (lIM : K.lookup fIM = some ⟨ocIM, odIM, .func (PySem.W.fnOf "__init__" "Move.__init__" (defArgs sInitM) (defBody sInitM) (defScope sInitM) .none kVIM dcIM pmIM anIM cdIM ctIM), slIM⟩)
    (cIM : PySem.W.codeIn K cdIM "Move.__init__" = true)
    (kIM : PySem.W.keepIn K (.ref fIM) = true)
    (a1 : PySem.W.nsIn K mainGlobals "is_letter" = some (some (.ref f1)))
    (l1 : K.lookup f1 = some ⟨oc1, od1, .func (PySem.W.fnOf "is_letter" "is_letter" (defArgs sLetter) (defBody sLetter) (defScope sLetter) .none kV1 dc1 pm1 an1 cd1 ct1), sl1⟩)
    (c1 : PySem.W.codeIn K cd1 "is_letter" = true)
    (k1 : PySem.W.keepIn K (.ref f1) = true)
    (a2 : PySem.W.nsIn K mainGlobals "cell_end" = some (some (.ref f2)))
    (l2 : K.lookup f2 = some ⟨oc2, od2, .func (PySem.W.fnOf "cell_end" "cell_end" (defArgs sEnd) (defBody sEnd) (defScope sEnd) .none kV2 dc2 pm2 an2 cd2 ct2), sl2⟩)
    (c2 : PySem.W.codeIn K cd2 "cell_end" = true)
    (k2 : PySem.W.keepIn K (.ref f2) = true)
    (a3 : PySem.W.nsIn K mainGlobals "refusal" = some (some (.ref f3)))
    (l3 : K.lookup f3 = some ⟨oc3, od3, .func (PySem.W.fnOf "refusal" "refusal" (defArgs sRefusal) (defBody sRefusal) (defScope sRefusal) .none kV3 dc3 pm3 an3 cd3 ct3), sl3⟩)
    (c3 : PySem.W.codeIn K cd3 "refusal" = true)
    (k3 : PySem.W.keepIn K (.ref f3) = true)
    (a4 : PySem.W.nsIn K mainGlobals "row_cells" = some (some (.ref f4)))
    (l4 : K.lookup f4 = some ⟨oc4, od4, .func (PySem.W.fnOf "row_cells" "row_cells" (defArgs sCells) (defBody sCells) (defScope sCells) .none kV4 dc4 pm4 an4 cd4 ct4), sl4⟩)
    (c4 : PySem.W.codeIn K cd4 "row_cells" = true)
    (k4 : PySem.W.keepIn K (.ref f4) = true)
    (a5 : PySem.W.nsIn K mainGlobals "are_alike" = some (some (.ref f5)))
    (l5 : K.lookup f5 = some ⟨oc5, od5, .func (PySem.W.fnOf "are_alike" "are_alike" (defArgs sAlike) (defBody sAlike) (defScope sAlike) .none kV5 dc5 pm5 an5 cd5 ct5), sl5⟩)
    (c5 : PySem.W.codeIn K cd5 "are_alike" = true)
    (k5 : PySem.W.keepIn K (.ref f5) = true)
    (a6 : PySem.W.nsIn K mainGlobals "pair_cost" = some (some (.ref f6)))
    (l6 : K.lookup f6 = some ⟨oc6, od6, .func (PySem.W.fnOf "pair_cost" "pair_cost" (defArgs sPair) (defBody sPair) (defScope sPair) .none kV6 dc6 pm6 an6 cd6 ct6), sl6⟩)
    (c6 : PySem.W.codeIn K cd6 "pair_cost" = true)
    (k6 : PySem.W.keepIn K (.ref f6) = true)
    (a7 : PySem.W.nsIn K mainGlobals "rows_refusal" = some (some (.ref f7)))
    (l7 : K.lookup f7 = some ⟨oc7, od7, .func (PySem.W.fnOf "rows_refusal" "rows_refusal" (defArgs sRows) (defBody sRows) (defScope sRows) .none kV7 dc7 pm7 an7 cd7 ct7), sl7⟩)
    (c7 : PySem.W.codeIn K cd7 "rows_refusal" = true)
    (k7 : PySem.W.keepIn K (.ref f7) = true)
    (a8 : PySem.W.nsIn K mainGlobals "beginning" = some (some (.ref f8)))
    (l8 : K.lookup f8 = some ⟨oc8, od8, .func (PySem.W.fnOf "beginning" "beginning" (defArgs sBegin) (defBody sBegin) (defScope sBegin) .none kV8 dc8 pm8 an8 cd8 ct8), sl8⟩)
    (c8 : PySem.W.codeIn K cd8 "beginning" = true)
    (k8 : PySem.W.keepIn K (.ref f8) = true)
    (a9 : PySem.W.nsIn K mainGlobals "is_ending" = some (some (.ref f9)))
    (l9 : K.lookup f9 = some ⟨oc9, od9, .func (PySem.W.fnOf "is_ending" "is_ending" (defArgs sEnding) (defBody sEnding) (defScope sEnding) .none kV9 dc9 pm9 an9 cd9 ct9), sl9⟩)
    (c9 : PySem.W.codeIn K cd9 "is_ending" = true)
    (k9 : PySem.W.keepIn K (.ref f9) = true)
    (a10 : PySem.W.nsIn K mainGlobals "is_behind_other_gap" = some (some (.ref f10)))
    (l10 : K.lookup f10 = some ⟨oc10, od10, .func (PySem.W.fnOf "is_behind_other_gap" "is_behind_other_gap" (defArgs sBehO) (defBody sBehO) (defScope sBehO) .none kV10 dc10 pm10 an10 cd10 ct10), sl10⟩)
    (c10 : PySem.W.codeIn K cd10 "is_behind_other_gap" = true)
    (k10 : PySem.W.keepIn K (.ref f10) = true)
    (a11 : PySem.W.nsIn K mainGlobals "is_behind_base_gap" = some (some (.ref f11)))
    (l11 : K.lookup f11 = some ⟨oc11, od11, .func (PySem.W.fnOf "is_behind_base_gap" "is_behind_base_gap" (defArgs sBehB) (defBody sBehB) (defScope sBehB) .none kV11 dc11 pm11 an11 cd11 ct11), sl11⟩)
    (c11 : PySem.W.codeIn K cd11 "is_behind_base_gap" = true)
    (k11 : PySem.W.keepIn K (.ref f11) = true)
    (a12 : PySem.W.nsIn K mainGlobals "is_word" = some (some (.ref f12)))
    (l12 : K.lookup f12 = some ⟨oc12, od12, .func (PySem.W.fnOf "is_word" "is_word" (defArgs sIsWord) (defBody sIsWord) (defScope sIsWord) .none kV12 dc12 pm12 an12 cd12 ct12), sl12⟩)
    (c12 : PySem.W.codeIn K cd12 "is_word" = true)
    (k12 : PySem.W.keepIn K (.ref f12) = true)
    (a13 : PySem.W.nsIn K mainGlobals "is_gap" = some (some (.ref f13)))
    (l13 : K.lookup f13 = some ⟨oc13, od13, .func (PySem.W.fnOf "is_gap" "is_gap" (defArgs sIsGap) (defBody sIsGap) (defScope sIsGap) .none kV13 dc13 pm13 an13 cd13 ct13), sl13⟩)
    (c13 : PySem.W.codeIn K cd13 "is_gap" = true)
    (k13 : PySem.W.keepIn K (.ref f13) = true)
    (a14 : PySem.W.nsIn K mainGlobals "may_stand" = some (some (.ref f14)))
    (l14 : K.lookup f14 = some ⟨oc14, od14, .func (PySem.W.fnOf "may_stand" "may_stand" (defArgs sMay) (defBody sMay) (defScope sMay) .none kV14 dc14 pm14 an14 cd14 ct14), sl14⟩)
    (c14 : PySem.W.codeIn K cd14 "may_stand" = true)
    (k14 : PySem.W.keepIn K (.ref f14) = true)
    (a15 : PySem.W.nsIn K mainGlobals "step_cost" = some (some (.ref f15)))
    (l15 : K.lookup f15 = some ⟨oc15, od15, .func (PySem.W.fnOf "step_cost" "step_cost" (defArgs sStepCost) (defBody sStepCost) (defScope sStepCost) .none kV15 dc15 pm15 an15 cd15 ct15), sl15⟩)
    (c15 : PySem.W.codeIn K cd15 "step_cost" = true)
    (k15 : PySem.W.keepIn K (.ref f15) = true)
    (a16 : PySem.W.nsIn K mainGlobals "place_behind" = some (some (.ref f16)))
    (l16 : K.lookup f16 = some ⟨oc16, od16, .func (PySem.W.fnOf "place_behind" "place_behind" (defArgs sBehind) (defBody sBehind) (defScope sBehind) .none kV16 dc16 pm16 an16 cd16 ct16), sl16⟩)
    (c16 : PySem.W.codeIn K cd16 "place_behind" = true)
    (k16 : PySem.W.keepIn K (.ref f16) = true)
    (a17 : PySem.W.nsIn K mainGlobals "steps_cost" = some (some (.ref f17)))
    (l17 : K.lookup f17 = some ⟨oc17, od17, .func (PySem.W.fnOf "steps_cost" "steps_cost" (defArgs sStepsCost) (defBody sStepsCost) (defScope sStepsCost) .none kV17 dc17 pm17 an17 cd17 ct17), sl17⟩)
    (c17 : PySem.W.codeIn K cd17 "steps_cost" = true)
    (k17 : PySem.W.keepIn K (.ref f17) = true)
    (a18 : PySem.W.nsIn K mainGlobals "run_numbers" = some (some (.ref f18)))
    (l18 : K.lookup f18 = some ⟨oc18, od18, .func (PySem.W.fnOf "run_numbers" "run_numbers" (defArgs sRunNos) (defBody sRunNos) (defScope sRunNos) .none kV18 dc18 pm18 an18 cd18 ct18), sl18⟩)
    (c18 : PySem.W.codeIn K cd18 "run_numbers" = true)
    (k18 : PySem.W.keepIn K (.ref f18) = true)
    (a19 : PySem.W.nsIn K mainGlobals "goes_on" = some (some (.ref f19)))
    (l19 : K.lookup f19 = some ⟨oc19, od19, .func (PySem.W.fnOf "goes_on" "goes_on" (defArgs sGoesOn) (defBody sGoesOn) (defScope sGoesOn) .none kV19 dc19 pm19 an19 cd19 ct19), sl19⟩)
    (c19 : PySem.W.codeIn K cd19 "goes_on" = true)
    (k19 : PySem.W.keepIn K (.ref f19) = true)
    (a20 : PySem.W.nsIn K mainGlobals "counts_at" = some (some (.ref f20)))
    (l20 : K.lookup f20 = some ⟨oc20, od20, .func (PySem.W.fnOf "counts_at" "counts_at" (defArgs sCountsAt) (defBody sCountsAt) (defScope sCountsAt) .none kV20 dc20 pm20 an20 cd20 ct20), sl20⟩)
    (c20 : PySem.W.codeIn K cd20 "counts_at" = true)
    (k20 : PySem.W.keepIn K (.ref f20) = true)
    (a21 : PySem.W.nsIn K mainGlobals "greatest_move" = some (some (.ref f21)))
    (l21 : K.lookup f21 = some ⟨oc21, od21, .func (PySem.W.fnOf "greatest_move" "greatest_move" (defArgs sGreatest) (defBody sGreatest) (defScope sGreatest) .none kV21 dc21 pm21 an21 cd21 ct21), sl21⟩)
    (c21 : PySem.W.codeIn K cd21 "greatest_move" = true)
    (k21 : PySem.W.keepIn K (.ref f21) = true)
    (a22 : PySem.W.nsIn K mainGlobals "without" = some (some (.ref f22)))
    (l22 : K.lookup f22 = some ⟨oc22, od22, .func (PySem.W.fnOf "without" "without" (defArgs sWithout) (defBody sWithout) (defScope sWithout) .none kV22 dc22 pm22 an22 cd22 ct22), sl22⟩)
    (c22 : PySem.W.codeIn K cd22 "without" = true)
    (k22 : PySem.W.keepIn K (.ref f22) = true)
    (a23 : PySem.W.nsIn K mainGlobals "moves_told" = some (some (.ref f23)))
    (l23 : K.lookup f23 = some ⟨oc23, od23, .func (PySem.W.fnOf "moves_told" "moves_told" (defArgs sMovesTold) (defBody sMovesTold) (defScope sMovesTold) .none kV23 dc23 pm23 an23 cd23 ct23), sl23⟩)
    (c23 : PySem.W.codeIn K cd23 "moves_told" = true)
    (k23 : PySem.W.keepIn K (.ref f23) = true)
    (a24 : PySem.W.nsIn K mainGlobals "moves" = some (some (.ref f24)))
    (l24 : K.lookup f24 = some ⟨oc24, od24, .func (PySem.W.fnOf "moves" "moves" (defArgs sMoves) (defBody sMoves) (defScope sMoves) .none kV24 dc24 pm24 an24 cd24 ct24), sl24⟩)
    (c24 : PySem.W.codeIn K cd24 "moves" = true)
    (k24 : PySem.W.keepIn K (.ref f24) = true)
    (pgP : PySem.W.plainGet K CP Str.empty = true)
    (hdP : PySem.W.hasDictIn K CP = true)
    (poP : PySem.W.plainOver K CP = true)
    (saP : PySem.W.findIn K (.ref CP) "__setattr__" = some (some (.builtin "object.__setattr__")))
    (mkP : PySem.W.makesIn K CP = true)
    (kcP : PySem.W.keepIn K (.ref CP) = true)
    (nP_base_taken : PySem.W.findIn K (.ref CP) "base_taken" = some none)
    (nP_other_taken : PySem.W.findIn K (.ref CP) "other_taken" = some none)
    (nP_last : PySem.W.findIn K (.ref CP) "last" = some none)
    (pgR : PySem.W.plainGet K CR Str.empty = true)
    (hdR : PySem.W.hasDictIn K CR = true)
    (poR : PySem.W.plainOver K CR = true)
    (saR : PySem.W.findIn K (.ref CR) "__setattr__" = some (some (.builtin "object.__setattr__")))
    (mkR : PySem.W.makesIn K CR = true)
    (kcR : PySem.W.keepIn K (.ref CR) = true)
    (nR_cells : PySem.W.findIn K (.ref CR) "cells" = some none)
    (nR_numbers : PySem.W.findIn K (.ref CR) "numbers" = some none)
    (pgM : PySem.W.plainGet K CM Str.empty = true)
    (hdM : PySem.W.hasDictIn K CM = true)
    (poM : PySem.W.plainOver K CM = true)
    (saM : PySem.W.findIn K (.ref CM) "__setattr__" = some (some (.builtin "object.__setattr__")))
    (mkM : PySem.W.makesIn K CM = true)
    (kcM : PySem.W.keepIn K (.ref CM) = true)
    (nM_base_start : PySem.W.findIn K (.ref CM) "base_start" = some none)
    (nM_other_start : PySem.W.findIn K (.ref CM) "other_start" = some none)
    (nM_count : PySem.W.findIn K (.ref CM) "count" = some none)
    (g_gap : PySem.W.nsIn K mainGlobals "GAP" = some (some (.int 4294967295 t_gap)))
    (g_lost : PySem.W.nsIn K mainGlobals "LOST" = some (some (.int 16777216 t_lost)))
    (g_lend : PySem.W.nsIn K mainGlobals "LETTERS_END" = some (some (.int 2097152 t_lend)))
    (g_longest : PySem.W.nsIn K mainGlobals "LONGEST_WORD" = some (some (.int 512 t_longest)))
    (g_mostN : PySem.W.nsIn K mainGlobals "MOST_NUMBERS" = some (some (.int 1048576 t_mostN)))
    (g_mostC : PySem.W.nsIn K mainGlobals "MOST_CELLS" = some (some (.int 4096 t_mostC)))
    (g_noRow : PySem.W.nsIn K mainGlobals "NO_ROW" = some (some (.int (-1) t_noRow)))
    (g_tooMany : PySem.W.nsIn K mainGlobals "TOO_MANY_CELLS" = some (some (.int (-2) t_tooMany)))
    (g_alike : PySem.W.nsIn K mainGlobals "ALIKE_COST" = some (some (.int 0 t_alike)))
    (g_fit : PySem.W.nsIn K mainGlobals "FIT_COST" = some (some (.int 1 t_fit)))
    (g_unlike : PySem.W.nsIn K mainGlobals "UNLIKE_COST" = some (some (.int 4 t_unlike)))
    (g_alone : PySem.W.nsIn K mainGlobals "ALONE_COST" = some (some (.int 3 t_alone)))
    (g_pair : PySem.W.nsIn K mainGlobals "PAIR" = some (some (.int 0 t_pair)))
    (g_lostW : PySem.W.nsIn K mainGlobals "LOST_WORD" = some (some (.int 1 t_lostW)))
    (g_spared : PySem.W.nsIn K mainGlobals "SPARED_WORD" = some (some (.int 2 t_spared)))
    (g_missing : PySem.W.nsIn K mainGlobals "MISSING_WORD" = some (some (.int 3 t_missing)))
    (g_added : PySem.W.nsIn K mainGlobals "ADDED_WORD" = some (some (.int 4 t_added)))
    (g_bgap : PySem.W.nsIn K mainGlobals "BASE_GAP" = some (some (.int 5 t_bgap)))
    (g_ogap : PySem.W.nsIn K mainGlobals "OTHER_GAP" = some (some (.int 6 t_ogap)))
    (g_noC : PySem.W.nsIn K mainGlobals "NO_COLLATION" = some (some (.int (-6) t_noC)))
    (g_short : PySem.W.nsIn K mainGlobals "SHORTEST_MOVE" = some (some (.int 2 t_short)))
    (u_b : PySem.W.nsIn K mainGlobals "BASE_TAKEN" = some (some (.ref tb)))
    (v_b : K.lookup tb = some ⟨.type "tuple", odb, .seq #[.int 1 tb0, .int 1 tb1, .int 0 tb2, .int 1 tb3, .int 0 tb4, .int 1 tb5, .int 0 tb6] nb, slb⟩)
    (u_o : PySem.W.nsIn K mainGlobals "OTHER_TAKEN" = some (some (.ref to)))
    (v_o : K.lookup to = some ⟨.type "tuple", odo, .seq #[.int 1 to0, .int 0 to1, .int 1 to2, .int 0 to3, .int 1 to4, .int 0 to5, .int 1 to6] no, slo⟩)
    (z_len : PySem.W.nsIn K mainGlobals "len" = some none)
    (z_range : PySem.W.nsIn K mainGlobals "range" = some none)
    (z_tuple : PySem.W.nsIn K mainGlobals "tuple" = some none)
    (z_zip : PySem.W.nsIn K mainGlobals "zip" = some none)
    (z_min : PySem.W.nsIn K mainGlobals "min" = some none)
    (z_list : PySem.W.nsIn K mainGlobals "list" = some none)
    (z_reversed : PySem.W.nsIn K mainGlobals "reversed" = some none)
    (z_enumerate : PySem.W.nsIn K mainGlobals "enumerate" = some none)
    : ∃ fd : FuncData, (∀ (s : Shared) (us : List Value), us.length = (["x", "y", "s"] : List Str).length → BindsTo s fd ⟨us, []⟩ ((["x", "y", "s"] : List Str).zip us)) ∧ ∀ base : Heap, K.In base → base.Ns mainGlobals mg → FnOk P w K mg base CX0 5 fa fd ["x", "y", "s"] (spMoves K) := by
  have e := hfa.symm.trans (PySem.W.mg_of X G a24)
  cases e
  have T : Txt K mg := ⟨⟨_, PySem.W.mg_of X G g_gap⟩, ⟨_, PySem.W.mg_of X G g_lost⟩, ⟨_, PySem.W.mg_of X G g_lend⟩, ⟨_, PySem.W.mg_of X G g_longest⟩, ⟨_, PySem.W.mg_of X G g_mostN⟩, ⟨_, PySem.W.mg_of X G g_mostC⟩, ⟨_, PySem.W.mg_of X G g_noRow⟩, ⟨_, PySem.W.mg_of X G g_tooMany⟩, ⟨_, PySem.W.mg_of X G g_alike⟩, ⟨_, PySem.W.mg_of X G g_fit⟩, ⟨_, PySem.W.mg_of X G g_unlike⟩, ⟨_, PySem.W.mg_of X G g_alone⟩, PySem.W.mg_none_of X G z_len, PySem.W.mg_none_of X G z_range, PySem.W.mg_none_of X G z_tuple, PySem.W.mg_none_of X G z_zip, PySem.W.mg_none_of X G z_min, PySem.W.mg_none_of X G z_list, PySem.W.mg_none_of X G z_reversed, PySem.W.mg_none_of X G z_enumerate⟩
  have TP : TxtP K mg CP tb to := ⟨⟨pgP, hdP, poP, saP⟩, nP_base_taken, nP_other_taken, nP_last, PySem.W.mg_of X G aP, ⟨_, PySem.W.mg_of X G g_pair⟩, ⟨_, PySem.W.mg_of X G g_lostW⟩, ⟨_, PySem.W.mg_of X G g_spared⟩, ⟨_, PySem.W.mg_of X G g_missing⟩, ⟨_, PySem.W.mg_of X G g_added⟩, ⟨_, PySem.W.mg_of X G g_bgap⟩, ⟨_, PySem.W.mg_of X G g_ogap⟩, PySem.W.mg_of X G u_b, fun H => .inr ⟨_, _, _, v_b, rfl, rfl, (by show 7 ≤ sizeLine; decide), .cons ⟨_, rfl⟩ (.cons ⟨_, rfl⟩ (.cons ⟨_, rfl⟩ (.cons ⟨_, rfl⟩ (.cons ⟨_, rfl⟩ (.cons ⟨_, rfl⟩ (.cons ⟨_, rfl⟩ (.nil)))))))⟩, PySem.W.mg_of X G u_o, fun H => .inr ⟨_, _, _, v_o, rfl, rfl, (by show 7 ≤ sizeLine; decide), .cons ⟨_, rfl⟩ (.cons ⟨_, rfl⟩ (.cons ⟨_, rfl⟩ (.cons ⟨_, rfl⟩ (.cons ⟨_, rfl⟩ (.cons ⟨_, rfl⟩ (.cons ⟨_, rfl⟩ (.nil)))))))⟩⟩
  have MP : Mk K CP fIP := ⟨mkP, aIP, iIP, kcP⟩
  have FIP := fun_mk (st := sInitP) lIP cIP kIP
  have bIP := FIP.binds (ps := ["self", "base_taken", "other_taken", "last"]) fun _ _ _ _ _ _ us hl => match us, hl with | [_, _, _, _], _ => rfl
  have TR : TxtR K mg CR := ⟨⟨pgR, hdR, poR, saR⟩, nR_cells, nR_numbers, PySem.W.mg_of X G aR⟩
  have MR : Mk K CR fIR := ⟨mkR, aIR, iIR, kcR⟩
  have FIR := fun_mk (st := sInitR) lIR cIR kIR
  have bIR := FIR.binds (ps := ["self", "cells", "numbers"]) fun _ _ _ _ _ _ us hl => match us, hl with | [_, _, _], _ => rfl
  have TM : TxtM K mg CM := ⟨⟨pgM, hdM, poM, saM⟩, nM_base_start, nM_other_start, nM_count, PySem.W.mg_of X G aM⟩
  have MM : Mk K CM fIM := ⟨mkM, aIM, iIM, kcM⟩
  have FIM := fun_mk (st := sInitM) lIM cIM kIM
  have bIM := FIM.binds (ps := ["self", "base_start", "other_start", "count"]) fun _ _ _ _ _ _ us hl => match us, hl with | [_, _, _, _], _ => rfl
  have F1 := fun_mk (st := sLetter) l1 c1 k1
  have b1 := F1.binds (ps := ["number"]) fun _ _ _ _ _ _ us hl => match us, hl with | [_], _ => rfl
  have F2 := fun_mk (st := sEnd) l2 c2 k2
  have b2 := F2.binds (ps := ["numbers", "start"]) fun _ _ _ _ _ _ us hl => match us, hl with | [_, _], _ => rfl
  have F3 := fun_mk (st := sRefusal) l3 c3 k3
  have b3 := F3.binds (ps := ["numbers"]) fun _ _ _ _ _ _ us hl => match us, hl with | [_], _ => rfl
  have F4 := fun_mk (st := sCells) l4 c4 k4
  have b4 := F4.binds (ps := ["numbers"]) fun _ _ _ _ _ _ us hl => match us, hl with | [_], _ => rfl
  have F5 := fun_mk (st := sAlike) l5 c5 k5
  have b5 := F5.binds (ps := ["word", "other"]) fun _ _ _ _ _ _ us hl => match us, hl with | [_, _], _ => rfl
  have F6 := fun_mk (st := sPair) l6 c6 k6
  have b6 := F6.binds (ps := ["word", "other"]) fun _ _ _ _ _ _ us hl => match us, hl with | [_, _], _ => rfl
  have F7 := fun_mk (st := sRows) l7 c7 k7
  have b7 := F7.binds (ps := ["x", "y"]) fun _ _ _ _ _ _ us hl => match us, hl with | [_, _], _ => rfl
  have F8 := fun_mk (st := sBegin) l8 c8 k8
  have b8 := F8.binds (ps := ([] : List Str)) fun _ _ _ _ _ _ us hl => match us, hl with | [], _ => rfl
  have F9 := fun_mk (st := sEnding) l9 c9 k9
  have b9 := F9.binds (ps := ["base", "other", "place"]) fun _ _ _ _ _ _ us hl => match us, hl with | [_, _, _], _ => rfl
  have F10 := fun_mk (st := sBehO) l10 c10 k10
  have b10 := F10.binds (ps := ["place"]) fun _ _ _ _ _ _ us hl => match us, hl with | [_], _ => rfl
  have F11 := fun_mk (st := sBehB) l11 c11 k11
  have b11 := F11.binds (ps := ["place"]) fun _ _ _ _ _ _ us hl => match us, hl with | [_], _ => rfl
  have F12 := fun_mk (st := sIsWord) l12 c12 k12
  have b12 := F12.binds (ps := ["cells", "number"]) fun _ _ _ _ _ _ us hl => match us, hl with | [_, _], _ => rfl
  have F13 := fun_mk (st := sIsGap) l13 c13 k13
  have b13 := F13.binds (ps := ["cells", "number"]) fun _ _ _ _ _ _ us hl => match us, hl with | [_, _], _ => rfl
  have F14 := fun_mk (st := sMay) l14 c14 k14
  have b14 := F14.binds (ps := ["base", "other", "place", "step"]) fun _ _ _ _ _ _ us hl => match us, hl with | [_, _, _, _], _ => rfl
  have F15 := fun_mk (st := sStepCost) l15 c15 k15
  have b15 := F15.binds (ps := ["base", "other", "place", "step"]) fun _ _ _ _ _ _ us hl => match us, hl with | [_, _, _, _], _ => rfl
  have F16 := fun_mk (st := sBehind) l16 c16 k16
  have b16 := F16.binds (ps := ["place", "step"]) fun _ _ _ _ _ _ us hl => match us, hl with | [_, _], _ => rfl
  have F17 := fun_mk (st := sStepsCost) l17 c17 k17
  have b17 := F17.binds (ps := ["base", "other", "told"]) fun _ _ _ _ _ _ us hl => match us, hl with | [_, _, _], _ => rfl
  have F18 := fun_mk (st := sRunNos) l18 c18 k18
  have b18 := F18.binds (ps := ["told", "kind", "taken"]) fun _ _ _ _ _ _ us hl => match us, hl with | [_, _, _], _ => rfl
  have F19 := fun_mk (st := sGoesOn) l19 c19 k19
  have b19 := F19.binds (ps := ["numbers", "cell"]) fun _ _ _ _ _ _ us hl => match us, hl with | [_, _], _ => rfl
  have F20 := fun_mk (st := sCountsAt) l20 c20 k20
  have b20 := F20.binds (ps := ["missing", "added", "cell", "behind"]) fun _ _ _ _ _ _ us hl => match us, hl with | [_, _, _, _], _ => rfl
  have F21 := fun_mk (st := sGreatest) l21 c21 k21
  have b21 := F21.binds (ps := ["missing", "added"]) fun _ _ _ _ _ _ us hl => match us, hl with | [_, _], _ => rfl
  have F22 := fun_mk (st := sWithout) l22 c22 k22
  have b22 := F22.binds (ps := ["runs", "start", "count"]) fun _ _ _ _ _ _ us hl => match us, hl with | [_, _, _], _ => rfl
  have F23 := fun_mk (st := sMovesTold) l23 c23 k23
  have b23 := F23.binds (ps := ["base", "other", "told"]) fun _ _ _ _ _ _ us hl => match us, hl with | [_, _, _], _ => rfl
  have F24 := fun_mk (st := sMoves) l24 c24 k24
  refine ⟨PySem.W.fnOf "moves" "moves" (defArgs sMoves) (defBody sMoves) (defScope sMoves) .none kV24 dc24 pm24 an24 cd24 ct24, fun s us hu => match us, hu with | [_, _, _], _ => .of_eq rfl, fun base _ _ => ?_⟩
  have G2 : FnOk P w K mg base CX0 2 f2 _ ["numbers", "start"] (spEnd K) := ok_end F2 T F1 b1 (PySem.W.mg_of X G a1)
  have G3 : FnOk P w K mg base CX0 3 f3 _ ["numbers"] (spRefusal K) := ok_refusal F3 T G2 k2 b2 (PySem.W.mg_of X G a2)
  have G4 : FnOk P w K mg base CX0 3 f4 _ ["numbers"] (spCells K) := ok_cells F4 T G2 k2 b2 (PySem.W.mg_of X G a2)
  have G5 : FnOk P w K mg base CX0 1 f5 _ ["word", "other"] (spAlike) := ok_alike F5 T
  have G6 : FnOk P w K mg base CX0 2 f6 _ ["word", "other"] (spPair) := ok_pair F6 T G5 ⟨k5, b5, PySem.W.mg_of X G a5⟩
  have G7 : FnOk P w K mg base CX0 4 f7 _ ["x", "y"] (spRows K) := ok_rows F7 G3 ⟨k3, b3, PySem.W.mg_of X G a3⟩
  have GIP : FnOk P w K mg base CX0 1 fIP _ ["self", "base_taken", "other_taken", "last"] (spInitP CP) := ok_initP FIP TP
  have G8 : FnOk P w K mg base CX0 3 f8 _ ([] : List Str) (spBegin CP) := ok_begin F8 TP MP GIP bIP
  have G9 : FnOk P w K mg base CX0 1 f9 _ ["base", "other", "place"] (spEnding CP) := ok_ending F9 T TP
  have G10 : FnOk P w K mg base CX0 1 f10 _ ["place"] (spBehO CP) := ok_behO F10 TP
  have G11 : FnOk P w K mg base CX0 1 f11 _ ["place"] (spBehB CP) := ok_behB F11 TP
  have G12 : FnOk P w K mg base CX0 1 f12 _ ["cells", "number"] (spIsWord) := ok_isWord F12 T
  have G13 : FnOk P w K mg base CX0 1 f13 _ ["cells", "number"] (spIsGap) := ok_isGap F13 T
  have G14 : FnOk P w K mg base CX0 2 f14 _ ["base", "other", "place", "step"] (spMay CP) := ok_may F14 TP G12 ⟨k12, b12, PySem.W.mg_of X G a12⟩ G13 ⟨k13, b13, PySem.W.mg_of X G a13⟩ G10 ⟨k10, b10, PySem.W.mg_of X G a10⟩ G11 ⟨k11, b11, PySem.W.mg_of X G a11⟩
  have G15 : FnOk P w K mg base CX0 3 f15 _ ["base", "other", "place", "step"] (spStepCost CP) := ok_stepCost F15 T TP G6 ⟨k6, b6, PySem.W.mg_of X G a6⟩
  have G16 : FnOk P w K mg base CX0 3 f16 _ ["place", "step"] (spBehind CP) := ok_behind F16 TP MP GIP bIP
  have G17 : FnOk P w K mg base CX0 4 f17 _ ["base", "other", "told"] (spStepsCost K) := ok_stepsCost F17 TP ⟨_, PySem.W.mg_of X G g_noC⟩ G8 ⟨k8, b8, PySem.W.mg_of X G a8⟩ G14 ⟨k14, b14, PySem.W.mg_of X G a14⟩ G15 ⟨k15, b15, PySem.W.mg_of X G a15⟩ G16 ⟨k16, b16, PySem.W.mg_of X G a16⟩ G9 ⟨k9, b9, PySem.W.mg_of X G a9⟩
  have GIR : FnOk P w K mg base CX0 1 fIR _ ["self", "cells", "numbers"] (spInitR CR) := ok_initR FIR TR
  have GIM : FnOk P w K mg base CX0 1 fIM _ ["self", "base_start", "other_start", "count"] (spInitM CM) := ok_initM FIM TM
  have G18 : FnOk P w K mg base CX0 1 f18 _ ["told", "kind", "taken"] (spRunNos K) := ok_runNos F18 T
  have G19 : FnOk P w K mg base CX0 1 f19 _ ["numbers", "cell"] (spGoesOn) := ok_goesOn F19 T
  have G20 : FnOk P w K mg base CX0 2 f20 _ ["missing", "added", "cell", "behind"] (spCountsAt CR) := ok_countsAt F20 T TR G19 ⟨k19, b19, PySem.W.mg_of X G a19⟩ G5 ⟨k5, b5, PySem.W.mg_of X G a5⟩
  have G21 : FnOk P w K mg base CX0 3 f21 _ ["missing", "added"] (spGreatest CR CM) := ok_greatest F21 T TR TM MM GIM bIM G20 ⟨k20, b20, PySem.W.mg_of X G a20⟩
  have G22 : FnOk P w K mg base CX0 3 f22 _ ["runs", "start", "count"] (spWithout CR) := ok_without F22 T TR MR GIR bIR
  have G23 : FnOk P w K mg base CX0 4 f23 _ ["base", "other", "told"] (spMovesTold K CM) := ok_movesTold F23 TP TR TM ⟨_, PySem.W.mg_of X G g_short⟩ MR GIR bIR G18 ⟨k18, b18, PySem.W.mg_of X G a18⟩ G21 ⟨k21, b21, PySem.W.mg_of X G a21⟩ G22 ⟨k22, b22, PySem.W.mg_of X G a22⟩
  exact ok_moves F24 TM ⟨_, PySem.W.mg_of X G g_noC⟩ G7 ⟨k7, b7, PySem.W.mg_of X G a7⟩ G4 ⟨k4, b4, PySem.W.mg_of X G a4⟩ G17 ⟨k17, b17, PySem.W.mg_of X G a17⟩ G23 ⟨k23, b23, PySem.W.mg_of X G a23⟩
theorem nv_ints : ∀ {l : List Int}, (∀ z ∈ l, 0 ≤ z) → l.map V.int = (l.map Int.toNat).map nV
  | [], _ => rfl
  | a :: l, h => by
    have ha : ((a.toNat : Nat) : Int) = a := Int.toNat_of_nonneg (h a (List.mem_cons_self ..))
    rw [List.map_cons, List.map_cons, List.map_cons, ← nv_ints fun z hz => h z (List.mem_cons_of_mem _ hz)]
    unfold nV
    rw [ha]
end Co
open PySem PySem.W PyProof.Rows
set_option maxRecDepth 100000 in
set_option maxHeartbeats 0 in
theorem PySem.Challenge.cw_collation_s05_moves_holds : PySem.Challenge.rw_collation_s05_moves.Holds := by
  w_on; k_headS; (case hw => exact ⟨[.list [], .list [], .list []], by decide +kernel, by decide +kernel⟩)
  k_fillS
  refine L2.walk_specK (r := PySem.Challenge.rw_collation_s05_moves) (k := 5) (CX := L2.CX0) (ps := ["x", "y", "s"]) (sp := Co.spMoves) (by decide +kernel) rfl rfl ⟨rfl, by decide, by decide⟩ (fun w h Y => PySem.W.kIn_of Y) ?F ?S (fun _ _ _ _ z => z)
  case F =>
    intro w mg fa h Y KX G hmg

    refine' Co.all_mk KX G hmg ?aP ?aIP ?iIP ?lIP ?cIP ?kIP ?aR ?aIR ?iIR ?lIR ?cIR ?kIR ?aM ?aIM ?iIM ?lIM ?cIM ?kIM ?a1 ?l1 ?c1 ?k1 ?a2 ?l2 ?c2 ?k2 ?a3 ?l3 ?c3 ?k3 ?a4 ?l4 ?c4 ?k4 ?a5 ?l5 ?c5 ?k5 ?a6 ?l6 ?c6 ?k6 ?a7 ?l7 ?c7 ?k7 ?a8 ?l8 ?c8 ?k8 ?a9 ?l9 ?c9 ?k9 ?a10 ?l10 ?c10 ?k10 ?a11 ?l11 ?c11 ?k11 ?a12 ?l12 ?c12 ?k12 ?a13 ?l13 ?c13 ?k13 ?a14 ?l14 ?c14 ?k14 ?a15 ?l15 ?c15 ?k15 ?a16 ?l16 ?c16 ?k16 ?a17 ?l17 ?c17 ?k17 ?a18 ?l18 ?c18 ?k18 ?a19 ?l19 ?c19 ?k19 ?a20 ?l20 ?c20 ?k20 ?a21 ?l21 ?c21 ?k21 ?a22 ?l22 ?c22 ?k22 ?a23 ?l23 ?c23 ?k23 ?a24 ?l24 ?c24 ?k24 ?pgP ?hdP ?poP ?saP ?mkP ?kcP ?nP_base_taken ?nP_other_taken ?nP_last ?pgR ?hdR ?poR ?saR ?mkR ?kcR ?nR_cells ?nR_numbers ?pgM ?hdM ?poM ?saM ?mkM ?kcM ?nM_base_start ?nM_other_start ?nM_count ?g_gap ?g_lost ?g_lend ?g_longest ?g_mostN ?g_mostC ?g_noRow ?g_tooMany ?g_alike ?g_fit ?g_unlike ?g_alone ?g_pair ?g_lostW ?g_spared ?g_missing ?g_added ?g_bgap ?g_ogap ?g_noC ?g_short ?u_b ?v_b ?u_o ?v_o ?z_len ?z_range ?z_tuple ?z_zip ?z_min ?z_list ?z_reversed ?z_enumerate
    (case aP => k_is); (case aIP => k_is); (case iIP => k_is); (case lIP => k_is); (case cIP => k_is); (case kIP => k_is)
    (case aR => k_is); (case aIR => k_is); (case iIR => k_is); (case lIR => k_is); (case cIR => k_is); (case kIR => k_is)
    (case aM => k_is); (case aIM => k_is); (case iIM => k_is); (case lIM => k_is); (case cIM => k_is); (case kIM => k_is)
    (case a1 => k_is); (case l1 => k_is); (case c1 => k_is); (case k1 => k_is); (case a2 => k_is); (case l2 => k_is)
    (case c2 => k_is); (case k2 => k_is); (case a3 => k_is); (case l3 => k_is); (case c3 => k_is); (case k3 => k_is)
    (case a4 => k_is); (case l4 => k_is); (case c4 => k_is); (case k4 => k_is); (case a5 => k_is); (case l5 => k_is)
    (case c5 => k_is); (case k5 => k_is); (case a6 => k_is); (case l6 => k_is); (case c6 => k_is); (case k6 => k_is)
    (case a7 => k_is); (case l7 => k_is); (case c7 => k_is); (case k7 => k_is); (case a8 => k_is); (case l8 => k_is)
    (case c8 => k_is); (case k8 => k_is); (case a9 => k_is); (case l9 => k_is); (case c9 => k_is); (case k9 => k_is)
    (case a10 => k_is); (case l10 => k_is); (case c10 => k_is); (case k10 => k_is); (case a11 => k_is); (case l11 => k_is)
    (case c11 => k_is); (case k11 => k_is); (case a12 => k_is); (case l12 => k_is); (case c12 => k_is); (case k12 => k_is)
    (case a13 => k_is); (case l13 => k_is); (case c13 => k_is); (case k13 => k_is); (case a14 => k_is); (case l14 => k_is)
    (case c14 => k_is); (case k14 => k_is); (case a15 => k_is); (case l15 => k_is); (case c15 => k_is); (case k15 => k_is)
    (case a16 => k_is); (case l16 => k_is); (case c16 => k_is); (case k16 => k_is); (case a17 => k_is); (case l17 => k_is)
    (case c17 => k_is); (case k17 => k_is); (case a18 => k_is); (case l18 => k_is); (case c18 => k_is); (case k18 => k_is)
    (case a19 => k_is); (case l19 => k_is); (case c19 => k_is); (case k19 => k_is); (case a20 => k_is); (case l20 => k_is)
    (case c20 => k_is); (case k20 => k_is); (case a21 => k_is); (case l21 => k_is); (case c21 => k_is); (case k21 => k_is)
    (case a22 => k_is); (case l22 => k_is); (case c22 => k_is); (case k22 => k_is); (case a23 => k_is); (case l23 => k_is)
    (case c23 => k_is); (case k23 => k_is); (case a24 => k_is); (case l24 => k_is); (case c24 => k_is); (case k24 => k_is)
    (case pgP => k_is); (case hdP => k_is); (case poP => k_is); (case saP => k_is); (case mkP => k_is); (case kcP => k_is)
    (case nP_base_taken => k_is); (case nP_other_taken => k_is); (case nP_last => k_is); (case pgR => k_is); (case hdR => k_is); (case poR => k_is)
    (case saR => k_is); (case mkR => k_is); (case kcR => k_is); (case nR_cells => k_is); (case nR_numbers => k_is); (case pgM => k_is)
    (case hdM => k_is); (case poM => k_is); (case saM => k_is); (case mkM => k_is); (case kcM => k_is); (case nM_base_start => k_is)
    (case nM_other_start => k_is); (case nM_count => k_is); (case g_gap => k_is); (case g_lost => k_is); (case g_lend => k_is); (case g_longest => k_is)
    (case g_mostN => k_is); (case g_mostC => k_is); (case g_noRow => k_is); (case g_tooMany => k_is); (case g_alike => k_is); (case g_fit => k_is)
    (case g_unlike => k_is); (case g_alone => k_is); (case g_pair => k_is); (case g_lostW => k_is); (case g_spared => k_is); (case g_missing => k_is)
    (case g_added => k_is); (case g_bgap => k_is); (case g_ogap => k_is); (case g_noC => k_is); (case g_short => k_is); (case u_b => k_is)
    (case v_b => k_is); (case u_o => k_is); (case v_o => k_is); (case z_len => k_is); (case z_range => k_is); (case z_tuple => k_is)
    (case z_zip => k_is); (case z_min => k_is); (case z_list => k_is); (case z_reversed => k_is); (case z_enumerate => k_is)

  case S =>
    intro K H xs a hO hwi hask hx
    cases hx with
    | cons h1 hr1 =>
      cases hr1 with
      | cons h2 hr2 =>
        cases hr2 with
        | cons h3 hr3 =>
          cases hr3
          cases h1 with
          | lst hs1 ha1 =>
            cases h2 with
            | lst hs2 ha2 =>
              cases h3 with
              | lst hs3 ha3 =>
                have e1 := L2.ints_dw a.1 _ ha1
                subst e1
                have e2 := L2.ints_dw a.2.1 _ ha2
                subst e2
                have e3 := L2.ints_dw a.2.2.1 _ ha3
                subst e3
                obtain ⟨ll, p1, p2, p3⟩ := Cm.moves_asked_len a.1 a.2.1 a.2.2.1 hask
                have ec := Cm.moves_due a.1 a.2.1 a.2.2.1 (by omega) (by omega)
                have l1 : a.1.length ≤ 3000 := by omega
                have l2 : a.2.1.length ≤ 3000 := by omega
                have l3 : a.2.2.1.length ≤ 3000 := by omega
                refine ⟨_, _, _, a.1.map Int.toNat, a.2.1.map Int.toNat, a.2.2.1.map Int.toNat, rfl, ?_, ?_, ?_, ?_, ?_, ?_, fun H' p hp => ?_⟩
                · rw [← Co.nv_ints p1]; exact hs1
                · rw [← Co.nv_ints p2]; exact hs2
                · rw [← Co.nv_ints p3]; exact hs3
                · rw [List.length_map]; exact l1
                · rw [List.length_map]; exact l2
                · rw [List.length_map]; exact l3
                · rw [← ec] at hp
                  exact .lst (L2.SqL.of hp) (L2.dw_ints _)
#print axioms PySem.Challenge.cw_collation_s05_moves_holds
