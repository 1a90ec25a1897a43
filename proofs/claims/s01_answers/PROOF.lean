import PyProof.Rows.All
import PyWrdiag
import DiagSpec
import Wide.All
import OpenK.AllK
import Wide.FinOn
import PyProof.EqAt
import PyProof.EqKinds
import PyProof.TupleCall
import Open.SpecLaws
import KE.OsGo
import HandS.ForSpec
import HandS.ForMost
import HandS.Walk
import KE.GoesMore
import KE.KDictZip
import PySem.Challenge.RW_tenquestions_s01_answers
import HandS.Text
import KE.KMinKey
import HandS.SortKw
import HandS.Nested
import HandS.Lambda
import HandS.Spec
import KE.KNest
import HandS.TupLen
import HandS.WideBits
import HandS.Conv
import HandS.SortInts
import HandS.More
import HandS.CallLocal
import HandS.Codes
section
set_option Elab.async false
namespace TQ
open Diag
/-! ### a function's table: a number for each case -/
theorem fold_bit (g : Nat → Bool) : ∀ (l : List Nat) (i : Nat), (l.foldr (fun (m n : Nat) => 2 * n + (if g m = true then 1 else 0)) 0).testBit i = ((l[i]?).map g).getD false
  | [], i => by simp
  | x :: l, i => by
    have ih := fold_bit g l
    rw [List.foldr_cons]
    cases i with
    | zero =>
      cases h : g x <;> simp [h, Nat.testBit_zero] <;> omega
    | succ i =>
      rw [Nat.testBit_succ]
      have e : (2 * (l.foldr (fun (m n : Nat) => 2 * n + (if g m = true then 1 else 0)) 0) + (if g x = true then 1 else 0)) / 2 = l.foldr (fun (m n : Nat) => 2 * n + (if g m = true then 1 else 0)) 0 := by
        cases h : g x <;> simp <;> omega
      rw [e, ih]
      simp
theorem value_by (g : Nat → Bool) {m : Nat} (h : m < 1024) : value (funcBy g) m = g m := by
  unfold value funcBy
  rw [fold_bit]
  have : (List.range CASES)[m]? = some m := by
    rw [List.getElem?_range]
    simpa [CASES] using h
  rw [this]
  rfl
def b2i (b : Bool) : Int := if b = true then 1 else 0
def tab (f : Nat) : List Int := (List.range 1024).map fun m => b2i (value f m)
theorem tab_len (f : Nat) : (tab f).length = 1024 := by simp [tab]
theorem tab_by (g : Nat → Bool) : tab (funcBy g) = (List.range 1024).map fun m => b2i (g m) := by
  unfold tab
  refine List.map_congr_left fun m hm => ?_
  rw [value_by g (by simpa using hm)]
theorem tab_at (f : Nat) {m : Nat} (h : m < 1024) : (tab f)[m]? = some (b2i (value f m)) := by
  unfold tab
  simp [h]
/-- in how many cases: the sum -/
theorem sum_filter (p : Nat → Bool) : ∀ l : List Nat, (l.map fun m => b2i (p m)).sum = ((l.filter p).length : Int)
  | [] => rfl
  | x :: l => by
    rw [List.map_cons, List.sum_cons, sum_filter p l]
    cases h : p x <;> simp [b2i, h] <;> omega
theorem tab_sum (f : Nat) : (tab f).sum = ((cases f).length : Int) := sum_filter (value f) (List.range 1024)
end TQ
end
section
set_option Elab.async false
namespace TQ
open Diag
theorem or_pow : ∀ (v m : Nat), m.testBit v = false → m ||| 2 ^ v = m + 2 ^ v
  | 0, m, h => by
    have h0 : m % 2 = 0 := by
      rw [Nat.testBit_zero] at h
      simp at h
      omega
    have e1 : (m ||| 2 ^ 0) / 2 = m / 2 := by rw [Nat.or_div_two]; simp
    have e2 : (m ||| 2 ^ 0) % 2 = 1 := by rw [Nat.or_mod_two_eq_one]; simp
    rw [Nat.pow_zero] at *
    omega
  | v + 1, m, h => by
    have ih := or_pow v (m / 2) (by rw [Nat.testBit_succ] at h; exact h)
    have p : 2 ^ (v + 1) = 2 * 2 ^ v := by rw [Nat.pow_succ, Nat.mul_comm]
    have e1 : (m ||| 2 ^ (v + 1)) / 2 = m / 2 + 2 ^ v := by
      rw [Nat.or_div_two, p, Nat.mul_div_cancel_left _ (by decide), ih]
    have e2 : (m ||| 2 ^ (v + 1)) % 2 = m % 2 := by
      rcases Nat.mod_two_eq_zero_or_one m with z | z
      · have : ¬ (m ||| 2 ^ (v + 1)) % 2 = 1 := by rw [Nat.or_mod_two_eq_one, p]; omega
        omega
      · have : (m ||| 2 ^ (v + 1)) % 2 = 1 := by rw [Nat.or_mod_two_eq_one]; omega
        omega
    omega
theorem or_pow_set (v m : Nat) (h : m.testBit v = true) : m ||| 2 ^ v = m := by
  apply Nat.eq_of_testBit_eq
  intro i
  rw [Nat.testBit_or, Nat.testBit_two_pow]
  by_cases e : v = i
  · subst e; simp [h]
  · simp [e]
/-- the variable said yes: or; said no: or, less its worth -/
theorem setVar_or (m v : Nat) (z : Bool) : (m ||| 2 ^ v) = setVar m v z + (if z = true then 0 else 2 ^ v) := by
  unfold setVar
  cases h : m.testBit v
  · rw [or_pow v m h]
    cases z <;> simp
  · rw [or_pow_set v m h]
    have : 2 ^ v ≤ m := Nat.ge_two_pow_of_testBit h
    cases z <;> simp <;> omega
theorem setVar_lt {m v : Nat} {z : Bool} (hm : m < 1024) (hv : v < 10) : setVar m v z < 1024 := by
  have e := setVar_or m v z
  have h : m ||| 2 ^ v < 2 ^ 10 := Nat.or_lt_two_pow hm (Nat.pow_lt_pow_right (by decide) hv)
  omega
/-- the table of a function of cases -/
def tb (g : Nat → Bool) : List Int := (List.range 1024).map fun m => b2i (g m)
theorem tb_len (g : Nat → Bool) : (tb g).length = 1024 := by simp [tb]
theorem tb_at (g : Nat → Bool) {m : Nat} (h : m < 1024) : (tb g)[m]? = some (b2i (g m)) := by
  unfold tb
  simp [h]
theorem tb_congr {g g' : Nat → Bool} (h : ∀ m, m < 1024 → g m = g' m) : tb g = tb g' := by
  unfold tb
  exact List.map_congr_left fun m hm => by rw [h m (by simpa using hm)]
theorem tb_value (f : Nat) : tb (value f) = tab f := rfl
theorem tb_by (g : Nat → Bool) : tb (value (funcBy g)) = tb g := tb_congr fun m h => value_by g h
theorem shr_bit (n p : Nat) : ((n : Int) / 2 ^ p) % 2 = b2i (n.testBit p) := by
  have e : ((n : Int) / 2 ^ p) % 2 = (((n / 2 ^ p) % 2 : Nat) : Int) := by simp
  rw [e, ← Nat.shiftRight_eq_div_pow, b2i]
  unfold Nat.testBit
  rw [Nat.and_comm, Nat.and_one_is_mod]
  rcases Nat.mod_two_eq_zero_or_one (n >>> p) with z | z <;> rw [z] <;> simp
end TQ
end
section
set_option Elab.async false
set_option maxRecDepth 4000
namespace TQ
/-! ### the line of calls, read by its places -/
/-- how many whole numbers stand behind a call's number; 13 alone has a list besides -/
def arity (p : Int) : Nat := if p = 0 then 2 else if p = 1 then 2 else if p = 2 then 2 else if p = 3 then 4 else if p = 4 then 4 else if p = 5 then 4 else if p = 6 then 3 else if p = 7 then 3 else if p = 8 then 4 else if p = 9 then 2 else if p = 10 then 1 else if p = 11 then 2 else if p = 12 then 1 else if p = 13 then 1 else if p = 14 then 1 else 2
def nrows (p : Int) : Nat := if p = 13 then 1 else 0
theorem sixteen (p : Int) : p = 0 ∨ p = 1 ∨ p = 2 ∨ p = 3 ∨ p = 4 ∨ p = 5 ∨ p = 6 ∨ p = 7 ∨ p = 8 ∨ p = 9 ∨ p = 10 ∨ p = 11 ∨ p = 12 ∨ p = 13 ∨ p = 14 ∨ p = 15 ∨ (p < 0 ∨ 15 < p) := by omega
theorem shape_some {p : Int} {n k : Nat} (h : PyWrdiag.shape p = some (n, k)) : 0 ≤ p ∧ p ≤ 15 ∧ n = arity p ∧ k = nrows p := by
  rcases sixteen p with e | e | e | e | e | e | e | e | e | e | e | e | e | e | e | e | e
  case inr.inr.inr.inr.inr.inr.inr.inr.inr.inr.inr.inr.inr.inr.inr.inr =>
    exfalso
    unfold PyWrdiag.shape at h
    rw [if_neg (by omega), if_neg (by omega), if_neg (by omega), if_neg (by omega), if_neg (by omega), if_neg (by omega), if_neg (by omega), if_neg (by omega), if_neg (by omega), if_neg (by omega), if_neg (by omega), if_neg (by omega), if_neg (by omega), if_neg (by omega), if_neg (by omega), if_neg (by omega)] at h
    cases h
  all_goals
    subst e
    have h' := Option.some.inj h
    have h1 := (Prod.mk.inj h').1
    have h2 := (Prod.mk.inj h').2
    subst h1 h2
    decide
/-- within the bounds of the document -/
def inB (x : Int) : Prop := 0 ≤ x ∧ x ≤ 9223372036854775807
theorem within_inB {x : Int} (h : PyInside.within 0 9223372036854775807 x = true) : inB x := by
  unfold PyInside.within at h
  simpa [inB] using h
theorem each_two {x y : Int} (h : PyInside.each [(0, 9223372036854775807), (0, 9223372036854775807)] [x, y] = true) : inB x ∧ inB y := by
  simp only [PyInside.each, Bool.and_eq_true] at h
  exact ⟨within_inB h.1, within_inB h.2.1⟩
/-- what a call at the head of a list takes of it -/
theorem call_cases {p : Int} {r : List Int} {c : List (List Int)} {t : List Int} (h : PyFlat.call PyWrdiag.shape (p :: r) = some (c, t)) :
    (p ≠ 13 ∧ 0 ≤ p ∧ p ≤ 15 ∧ arity p ≤ r.length ∧ c = [p :: r.take (arity p)] ∧ t = r.drop (arity p)) ∨
    (p = 13 ∧ ∃ a m rest, r = a :: m :: rest ∧ 0 ≤ m ∧ m.toNat ≤ rest.length ∧ c = [[13, a], rest.take m.toNat] ∧ t = rest.drop m.toNat) := by
  unfold PyFlat.call at h
  dsimp only at h
  cases e : PyWrdiag.shape p with
  | none => rw [e] at h; exact nomatch h
  | some nk =>
    obtain ⟨n, k⟩ := nk
    rw [e] at h
    obtain ⟨h0, h15, rfl, rfl⟩ := shape_some e
    simp only at h
    split at h
    · cases h
    · rename_i hl
      by_cases hp : p = 13
      · subst hp
        refine .inr ⟨rfl, ?_⟩
        have en : arity 13 = 1 := by decide
        have ek : nrows 13 = 1 := by decide
        rw [en, ek] at h
        rw [en] at hl
        cases r with
        | nil => simp at hl
        | cons a r =>
          cases r with
          | nil => simp [PyFlat.rows, PyFlat.row] at h
          | cons m rest =>
            refine ⟨a, m, rest, rfl, ?_⟩
            simp only [List.drop_succ_cons, List.drop_zero, PyFlat.rows, PyFlat.row] at h
            by_cases hm : 0 ≤ m ∧ m.toNat ≤ rest.length
            · simp only [hm, and_self, if_true] at h
              simp at h
              exact ⟨hm.1, hm.2, h.1.symm, h.2.symm⟩
            · rw [if_neg hm] at h
              cases h
      · refine .inl ⟨hp, h0, h15, by omega, ?_⟩
        have ek : nrows p = 0 := by unfold nrows; rw [if_neg hp]
        rw [ek] at h
        simp only [PyFlat.rows] at h
        simp at h
        exact ⟨h.1.symm, h.2.symm⟩
theorem calls_cons {f : Nat} {p : Int} {r : List Int} {cs : List (List (List Int))} (h : PyFlat.calls PyWrdiag.shape f (p :: r) = some cs) :
    ∃ g c t cs', f = g + 1 ∧ PyFlat.call PyWrdiag.shape (p :: r) = some (c, t) ∧ PyFlat.calls PyWrdiag.shape g t = some cs' ∧ cs = c :: cs' := by
  cases f with
  | zero => cases h
  | succ g =>
    unfold PyFlat.calls at h
    cases e : PyFlat.call PyWrdiag.shape (p :: r) with
    | none => rw [e] at h; exact nomatch h
    | some ct =>
      obtain ⟨c, t⟩ := ct
      rw [e] at h
      dsimp only at h
      cases e2 : PyFlat.calls PyWrdiag.shape g t with
      | none => rw [e2] at h; cases h
      | some cs' =>
        rw [e2] at h
        exact ⟨g, c, t, cs', rfl, rfl, e2, (Option.some.inj h).symm⟩
/-- at the place i of the list the rest is calls, the registers are s, and what is given so far and what these calls will give are the answer -/
def AtCall (l : List Int) (i : Nat) (n : Nat) (s : Diag.State) (given : List Int) : Prop :=
  i ≤ l.length ∧ ∃ f cs, PyFlat.calls PyWrdiag.shape f (l.drop i) = some cs ∧ (∀ c ∈ cs, PyInside.call PyWrdiag.bound c = true) ∧ n + cs.length ≤ 100 ∧
    PyWrdiag.answers l = given ++ PyFlat.told (PyFlat.played DiagNeutral.step s (cs.map PyWrdiag.whole))
theorem AtCall.start {l : List Int} (h : PyWrdiag.answers_asked l = true) : AtCall l 0 0 Diag.start [] := by
  unfold PyWrdiag.answers_asked at h
  refine ⟨Nat.zero_le _, ?_⟩
  cases e : PyFlat.calls PyWrdiag.shape l.length l with
  | none => rw [e] at h; exact nomatch h
  | some raw =>
    rw [e] at h
    simp only [Bool.and_eq_true] at h; obtain ⟨⟨⟨h1, h2⟩, _⟩, _⟩ := h
    refine ⟨l.length, raw, by simpa using e, ?_, ?_, ?_⟩
    · simpa [PyInside.calls] using h2
    · simpa [PyFlat.atMost] using h1
    · unfold PyWrdiag.answers PyWrdiag.calls
      rw [e]
      rfl
theorem AtCall.done {l : List Int} {i n : Nat} {s : Diag.State} {given : List Int} (h : AtCall l i n s given) (hi : l.length ≤ i) : PyWrdiag.answers l = given := by
  obtain ⟨_, f, cs, h1, _, _, h4⟩ := h
  rw [List.drop_eq_nil_of_le hi] at h1
  have : cs = [] := by
    cases f <;> exact (Option.some.inj h1).symm
  subst this
  rw [h4]
  simp [PyFlat.told, PyFlat.played]
theorem short_given {l : List Int} (h : PyWrdiag.answers_asked l = true) : (PyWrdiag.answers l).length ≤ 10000000 := by
  unfold PyWrdiag.answers_asked at h
  cases e : PyFlat.calls PyWrdiag.shape l.length l with
  | none => rw [e] at h; exact nomatch h
  | some raw =>
    rw [e] at h; simp only [Bool.and_eq_true] at h
    simpa [PyFlat.short] using h.2
theorem AtCall.given_short {l : List Int} {i n : Nat} {s : Diag.State} {given : List Int} (h : AtCall l i n s given) (ha : PyWrdiag.answers_asked l = true) : given.length ≤ 10000000 := by
  have := short_given ha
  obtain ⟨_, f, cs, _, _, _, h4⟩ := h
  rw [h4, List.length_append] at this
  omega
theorem told_played (step : Diag.State → List (List Int) → Diag.State × List Int) (s : Diag.State) (c : List (List Int)) (r : List (List (List Int))) :
    PyFlat.told (PyFlat.played step s (c :: r)) = ((step s c).2.length : Int) :: (step s c).2 ++ PyFlat.told (PyFlat.played step (step s c).1 r) := by
  simp [PyFlat.told, PyFlat.played]
/-- the bounds of a call of numbers alone -/
theorem inside_nums {p : Int} {xs : List Int} (h0 : 0 ≤ p) (h15 : p ≤ 15) (hl : xs.length = arity p) (h : PyInside.call PyWrdiag.bound [p :: xs] = true) : ∀ x ∈ xs, inB x := by
  have hb : ∃ b, PyWrdiag.bound p = (List.replicate (arity p) (0, 9223372036854775807), b) := by
    rcases sixteen p with e | e | e | e | e | e | e | e | e | e | e | e | e | e | e | e | e
    case inr.inr.inr.inr.inr.inr.inr.inr.inr.inr.inr.inr.inr.inr.inr.inr => omega
    all_goals (subst e; exact ⟨_, rfl⟩)
  obtain ⟨b, hb⟩ := hb
  simp only [PyInside.call, hb, Bool.and_eq_true] at h
  have := h.1
  clear h hb
  revert this
  generalize arity p = k at hl
  induction xs generalizing k with
  | nil => intro _ x hx; cases hx
  | cons y ys ih =>
    intro hh
    cases k with
    | zero => simp at hl
    | succ k =>
      rw [List.replicate_succ] at hh
      simp only [PyInside.each, Bool.and_eq_true] at hh
      intro x hx
      rcases List.mem_cons.mp hx with e | e
      · subst e; exact within_inB hh.1
      · exact ih k (by simpa using hl) hh.2 x e
/-- one call more: its numbers (and its list), all within their bounds; and behind it -/
theorem AtCall.turn {l : List Int} {i n : Nat} {s : Diag.State} {given : List Int} (h : AtCall l i n s given) (hi : i < l.length) :
    ∃ p, l[i]? = some p ∧ n < 100 ∧
      ((p ≠ 13 ∧ 0 ≤ p ∧ p ≤ 15 ∧ ∃ xs, (l.drop (i + 1)).take (arity p) = xs ∧ xs.length = arity p ∧ i + 1 + arity p ≤ l.length ∧ (∀ x ∈ xs, inB x) ∧
          AtCall l (i + 1 + arity p) (n + 1) (DiagNeutral.step s (PyWrdiag.whole [p :: xs])).1 (given ++ (((DiagNeutral.step s (PyWrdiag.whole [p :: xs])).2.length : Int) :: (DiagNeutral.step s (PyWrdiag.whole [p :: xs])).2))) ∨
       (p = 13 ∧ ∃ (a : Int) (m : Nat) (o : List Int), l[i + 1]? = some a ∧ l[i + 2]? = some (m : Int) ∧ (l.drop (i + 3)).take m = o ∧ o.length = m ∧ m ≤ 40 ∧ i + 3 + m ≤ l.length ∧ inB a ∧ (∀ x ∈ o, inB x) ∧
          AtCall l (i + 3 + m) (n + 1) (DiagNeutral.step s [[13, a], o]).1 (given ++ (((DiagNeutral.step s [[13, a], o]).2.length : Int) :: (DiagNeutral.step s [[13, a], o]).2)))) := by
  obtain ⟨_, f, cs, h1, h2, h3, h4⟩ := h
  have hd : l.drop i = l[i] :: l.drop (i + 1) := List.drop_eq_getElem_cons hi
  rw [hd] at h1
  obtain ⟨g, c, t, cs', rfl, hc, hcs, rfl⟩ := calls_cons h1
  refine ⟨l[i], by simp [hi], by simp at h3; omega, ?_⟩
  rw [List.map_cons, told_played] at h4
  rcases call_cases hc with ⟨hp, h0, h15, hl, rfl, rfl⟩ | ⟨hp, a, m, rest, hr, hm, hml, rfl, rfl⟩
  · have hxl : ((l.drop (i + 1)).take (arity l[i])).length = arity l[i] := by rw [List.length_take]; omega
    refine .inl ⟨hp, h0, h15, _, rfl, hxl, ?_, ?_, ?_, g, cs', ?_, ?_, ?_, ?_⟩
    · simp at hl; omega
    · exact inside_nums h0 h15 hxl (h2 _ (List.mem_cons_self ..))
    · simp at hl; omega
    · rw [← List.drop_drop] at *
      have e : i + 1 + arity l[i] = arity l[i] + (i + 1) := by omega
      simpa [List.drop_drop, Nat.add_comm] using hcs
    · exact fun c hc => h2 c (List.mem_cons_of_mem _ hc)
    · simp at h3; omega
    · rw [h4]
      simp
  · have hlen : (l.drop (i + 1)).length = rest.length + 2 := by rw [hr]; simp
    have hll : l.length - (i + 1) = rest.length + 2 := by simpa using hlen
    have g1 : l[i + 1]? = some a := by
      have : (l.drop (i + 1))[0]? = some a := by rw [hr]; rfl
      simpa using this
    have g2 : l[i + 2]? = some m := by
      have : (l.drop (i + 1))[1]? = some m := by rw [hr]; rfl
      simpa using this
    have g3 : l.drop (i + 3) = rest := by
      have : (l.drop (i + 1)).drop 2 = rest := by rw [hr]; rfl
      simpa [List.drop_drop] using this
    have em : ((m.toNat : Nat) : Int) = m := by omega
    have hin := h2 _ (List.mem_cons_self ..)
    have hb : PyWrdiag.bound 13 = ([(0, 9223372036854775807)], [(0, 9223372036854775807, 0, 40)]) := rfl
    simp only [PyInside.call, hb, PyInside.each, PyInside.lists, Bool.and_eq_true, decide_eq_true_eq] at hin
    obtain ⟨⟨ha, _⟩, ⟨⟨_, h40⟩, hall⟩, _⟩ := hin
    have hol : (rest.take m.toNat).length = m.toNat := by simp; omega
    refine .inr ⟨hp, a, m.toNat, _, g1, by rw [em]; exact g2, rfl, by rw [g3]; exact hol, by omega, by omega, within_inB ha, ?_, by omega, g, cs', ?_, ?_, ?_, ?_⟩
    · rw [g3]
      intro x hx
      exact within_inB (List.all_eq_true.mp hall x hx)
    · have : l.drop (i + 3 + m.toNat) = (l.drop (i + 3)).drop m.toNat := by rw [List.drop_drop]
      rw [this, g3]
      exact hcs
    · exact fun c hc => h2 c (List.mem_cons_of_mem _ hc)
    · simp at h3; omega
    · rw [h4, g3]
      simp [PyWrdiag.whole]
end TQ
end
section
set_option Elab.async false
set_option maxRecDepth 4000
namespace TQ
open Diag
/-! ### a step of the specification, by the call's numbers -/
def sh (w : State × Answer) : State × List Int := (w.1, DiagNeutral.shown w.2)
theorem nn_n (n : Nat) : decide ((0 : Int) ≤ (n : Int)) = true := by simp
section
variable (s : State) (r z v a b c op m : Nat)
theorem st_const : DiagNeutral.step s (PyWrdiag.whole [[0, (r : Int), (z : Int)]]) = sh (Diag.step s (.const r z)) := by
  simp [PyWrdiag.whole, DiagNeutral.step, DiagNeutral.callOf, DiagNeutral.whole, sh]
theorem st_var : DiagNeutral.step s (PyWrdiag.whole [[1, (r : Int), (v : Int)]]) = sh (Diag.step s (.var r v)) := by
  simp [PyWrdiag.whole, DiagNeutral.step, DiagNeutral.callOf, DiagNeutral.whole, sh]
theorem st_not : DiagNeutral.step s (PyWrdiag.whole [[2, (r : Int), (a : Int)]]) = sh (Diag.step s (.not_ r a)) := by
  simp [PyWrdiag.whole, DiagNeutral.step, DiagNeutral.callOf, DiagNeutral.whole, sh]
theorem st_two : DiagNeutral.step s (PyWrdiag.whole [[3, (r : Int), (op : Int), (a : Int), (b : Int)]]) = sh (Diag.step s (.two r op a b)) := by
  simp [PyWrdiag.whole, DiagNeutral.step, DiagNeutral.callOf, DiagNeutral.whole, sh]
theorem st_choose : DiagNeutral.step s (PyWrdiag.whole [[4, (r : Int), (a : Int), (b : Int), (c : Int)]]) = sh (Diag.step s (.choose r a b c)) := by
  simp [PyWrdiag.whole, DiagNeutral.step, DiagNeutral.callOf, DiagNeutral.whole, sh]
theorem st_fix : DiagNeutral.step s (PyWrdiag.whole [[5, (r : Int), (a : Int), (v : Int), (z : Int)]]) = sh (Diag.step s (.fix r a v z)) := by
  simp [PyWrdiag.whole, DiagNeutral.step, DiagNeutral.callOf, DiagNeutral.whole, sh]
theorem st_some : DiagNeutral.step s (PyWrdiag.whole [[6, (r : Int), (a : Int), (v : Int)]]) = sh (Diag.step s (.some_ r a v)) := by
  simp [PyWrdiag.whole, DiagNeutral.step, DiagNeutral.callOf, DiagNeutral.whole, sh]
theorem st_all : DiagNeutral.step s (PyWrdiag.whole [[7, (r : Int), (a : Int), (v : Int)]]) = sh (Diag.step s (.all_ r a v)) := by
  simp [PyWrdiag.whole, DiagNeutral.step, DiagNeutral.callOf, DiagNeutral.whole, sh]
theorem st_put : DiagNeutral.step s (PyWrdiag.whole [[8, (r : Int), (a : Int), (v : Int), (b : Int)]]) = sh (Diag.step s (.put r a v b)) := by
  simp [PyWrdiag.whole, DiagNeutral.step, DiagNeutral.callOf, DiagNeutral.whole, sh]
theorem st_value : DiagNeutral.step s (PyWrdiag.whole [[9, (a : Int), (m : Int)]]) = sh (Diag.step s (.value a m)) := by
  simp [PyWrdiag.whole, DiagNeutral.step, DiagNeutral.callOf, DiagNeutral.whole, sh]
theorem st_count : DiagNeutral.step s (PyWrdiag.whole [[10, (a : Int)]]) = sh (Diag.step s (.count a)) := by
  simp [PyWrdiag.whole, DiagNeutral.step, DiagNeutral.callOf, DiagNeutral.whole, sh]
theorem st_first : DiagNeutral.step s (PyWrdiag.whole [[11, (a : Int), (m : Int)]]) = sh (Diag.step s (.first a m)) := by
  simp [PyWrdiag.whole, DiagNeutral.step, DiagNeutral.callOf, DiagNeutral.whole, sh]
theorem st_matters : DiagNeutral.step s (PyWrdiag.whole [[12, (a : Int)]]) = sh (Diag.step s (.matters a)) := by
  simp [PyWrdiag.whole, DiagNeutral.step, DiagNeutral.callOf, DiagNeutral.whole, sh]
theorem st_best : DiagNeutral.step s (PyWrdiag.whole [[14, (a : Int)]]) = sh (Diag.step s (.best a)) := by
  simp [PyWrdiag.whole, DiagNeutral.step, DiagNeutral.callOf, DiagNeutral.whole, sh]
theorem st_within : DiagNeutral.step s (PyWrdiag.whole [[15, (a : Int), (b : Int)]]) = sh (Diag.step s (.within a b)) := by
  simp [PyWrdiag.whole, DiagNeutral.step, DiagNeutral.callOf, DiagNeutral.whole, sh]
theorem st_diagram (o : List Nat) : DiagNeutral.step s [[13, (a : Int)], o.map Int.ofNat] = sh (Diag.step s (.diagram a o)) := by
  have e1 : DiagNeutral.whole (o.map Int.ofNat) = true := by simp [DiagNeutral.whole]
  have e2 : DiagNeutral.nats (o.map Int.ofNat) = o := by
    unfold DiagNeutral.nats
    rw [List.map_map]
    exact (List.map_congr_left fun x _ => (rfl : (Int.toNat ∘ Int.ofNat) x = id x)).trans (List.map_id o)
  simp only [DiagNeutral.step, DiagNeutral.callOf, e1, e2]
  simp [DiagNeutral.whole, sh]
end
/-- a number within its bounds is a Nat -/
theorem inB_nat {x : Int} (h : inB x) : ∃ n : Nat, x = (n : Int) ∧ n < 9223372036854775808 := ⟨x.toNat, by unfold inB at h; omega, by unfold inB at h; omega⟩
theorem inB_nats : ∀ {l : List Int}, (∀ x ∈ l, inB x) → ∃ o : List Nat, l = o.map Int.ofNat ∧ ∀ x ∈ o, x < 9223372036854775808
  | [], _ => ⟨[], rfl, by simp⟩
  | x :: l, h => by
    obtain ⟨n, rfl, hn⟩ := inB_nat (h _ (List.mem_cons_self ..))
    obtain ⟨o, rfl, ho⟩ := inB_nats (l := l) fun x hx => h x (List.mem_cons_of_mem _ hx)
    exact ⟨n :: o, rfl, fun x hx => by
      rcases List.mem_cons.mp hx with e | e
      · subst e; exact hn
      · exact ho x e⟩
end TQ
end
section
set_option Elab.async false
set_option maxRecDepth 4000
namespace TQ
open Diag
/-! ### rows: a function's values by an order; where its nodes are met -/
theorem low_len {l : Row} {k : Nat} (h : l.length = 2 ^ (k + 1)) : (low l).length = 2 ^ k := by
  unfold low
  rw [List.length_take, h, Nat.pow_succ]
  omega
theorem high_len {l : Row} {k : Nat} (h : l.length = 2 ^ (k + 1)) : (high l).length = 2 ^ k := by
  unfold high
  rw [List.length_drop, h, Nat.pow_succ]
  omega
theorem low_high (l : Row) : low l ++ high l = l := List.take_append_drop _ _
theorem one_ne {l : Row} (h : l.length = 1) : ¬ (low l == high l) = true := by
  match l, h with
  | [x], _ => decide +revert
/-- a row of 2 ^ k values whose front variables it doesn't hang on are gone -/
structure Top (k : Nat) (l t : Row) (j : Nat) : Prop where
  le : j ≤ k
  len : t.length = 2 ^ j
  ne : 1 ≤ j → low t ≠ high t
theorem top_is : ∀ (n k : Nat) (l : Row), l.length = 2 ^ k → k ≤ n → ∃ j, Top k l (top n l) j
  | 0, k, l, h, hk => by
    have : k = 0 := by omega
    subst this
    exact ⟨0, Nat.le_refl _, h, fun z => absurd z (by decide)⟩
  | n + 1, 0, l, h, _ => by
    refine ⟨0, Nat.le_refl _, ?_, fun z => absurd z (by decide)⟩
    unfold top
    rw [if_neg (one_ne (by simpa using h))]
    exact h
  | n + 1, k + 1, l, h, hk => by
    unfold top
    by_cases e : (low l == high l) = true
    · rw [if_pos e]
      obtain ⟨j, hj⟩ := top_is n k (low l) (low_len h) (by omega)
      exact ⟨j, by have := hj.le; omega, hj.len, hj.ne⟩
    · rw [if_neg e]
      exact ⟨k + 1, Nat.le_refl _, h, fun _ z => e (by simpa using z)⟩
theorem const_halves {l : Row} (h : isConstant l = true) {k : Nat} (hl : l.length = 2 ^ (k + 1)) : low l = high l := by
  have hall : ∀ a ∈ l, ∀ b ∈ l, a = b := by
    cases l with
    | nil => intro a ha; cases ha
    | cons x r =>
      unfold isConstant at h
      have h2 : ∀ y ∈ r, y = x := fun y hy => by simpa using List.all_eq_true.mp h y hy
      intro a ha b hb
      rcases List.mem_cons.mp ha with e | e <;> rcases List.mem_cons.mp hb with e' | e'
      · rw [e, e']
      · rw [e, h2 b e']
      · rw [e', h2 a e]
      · rw [h2 a e, h2 b e']
  apply List.ext_getElem
  · rw [low_len hl, high_len hl]
  · intro i h1 h2
    refine hall _ (List.mem_of_mem_take (List.getElem_mem _)) _ (List.mem_of_mem_drop (List.getElem_mem _))
theorem one_const {l : Row} (h : l.length = 1) : isConstant l = true := by
  match l, h with
  | [x], _ => rfl
theorem Top.const_iff {k : Nat} {l t : Row} {j : Nat} (h : Top k l t j) : isConstant t = true ↔ j = 0 := by
  constructor
  · intro c
    rcases Nat.eq_zero_or_pos j with z | z
    · exact z
    · exfalso
      obtain ⟨i, rfl⟩ : ∃ i, j = i + 1 := ⟨j - 1, by omega⟩
      exact h.ne z (const_halves c h.len)
  · intro z
    subst z
    exact one_const h.len
/-- a row's nodes are all among ns: it's no or yes everywhere, or its own node is -/
def Done (ns : List Row) (l : Row) : Prop := isConstant (top VARS l) = true ∨ top VARS l ∈ ns
theorem Done.mono {ns ns' : List Row} {l : Row} (h : Done ns l) (p : ∀ t ∈ ns, t ∈ ns') : Done ns' l := h.elim .inl fun z => .inr (p _ z)
/-- a row that is a node -/
def IsNode (t : Row) : Prop := ∃ j, j ≤ 9 ∧ t.length = 2 ^ (j + 1) ∧ low t ≠ high t
theorem top_self {t : Row} (h : IsNode t) : top VARS t = t := by
  obtain ⟨j, _, _, h⟩ := h
  show (if (low t == high t) = true then _ else _) = _
  rw [if_neg (by simpa using h)]
structure Met (had : List Row) (l : Row) (ns : List Row) : Prop where
  pre : had <+: ns
  nd : ns.Nodup
  done : Done ns l
  closed : ∀ t ∈ ns, t ∈ had ∨ (IsNode t ∧ Done ns (low t) ∧ Done ns (high t))
theorem meet_met : ∀ (n k : Nat) (had : List Row) (l : Row), l.length = 2 ^ k → k ≤ n → k ≤ 10 → had.Nodup → Met had l (meet n had l)
  | 0, k, had, l, h, hk, _, nd => by
    have : k = 0 := by omega
    subst this
    obtain ⟨j, hj⟩ := top_is VARS 0 l h (by decide)
    have hle := hj.le
    exact ⟨List.prefix_refl _, nd, .inl (hj.const_iff.mpr (by omega)), fun t ht => .inl ht⟩
  | n + 1, k, had, l, h, hk, h10, nd => by
    obtain ⟨j, hj⟩ := top_is VARS k l h h10
    unfold meet
    by_cases c : isConstant (top VARS l) = true ∨ had.contains (top VARS l) = true
    · simp only [if_pos c]
      exact ⟨List.prefix_refl _, nd, c.elim .inl fun z => .inr (by simpa using z), fun t ht => .inl ht⟩
    · simp only [if_neg c]
      have c1 : ¬ isConstant (top VARS l) = true := fun z => c (.inl z)
      have c2 : top VARS l ∉ had := fun z => c (.inr (by simpa using z))
      have hj0 : j ≠ 0 := fun z => c1 (hj.const_iff.mpr z)
      obtain ⟨i, rfl⟩ : ∃ i, j = i + 1 := ⟨j - 1, by omega⟩
      have hle := hj.le
      have node : IsNode (top VARS l) := ⟨i, by omega, hj.len, hj.ne (by omega)⟩
      have nd1 : (had ++ [top VARS l]).Nodup := by
        rw [List.nodup_append]
        refine ⟨nd, by simp, fun a ha b hb => ?_⟩
        rw [List.mem_singleton.mp hb]
        exact fun e => c2 (e ▸ ha)
      have m1 := meet_met n i (had ++ [top VARS l]) (low (top VARS l)) (low_len hj.len) (by omega) (by omega) nd1
      have m2 := meet_met n i _ (high (top VARS l)) (high_len hj.len) (by omega) (by omega) m1.nd
      have in1 : top VARS l ∈ meet n (had ++ [top VARS l]) (low (top VARS l)) := m1.pre.subset (by simp)
      refine ⟨(List.prefix_append _ _).trans (m1.pre.trans m2.pre), m2.nd, .inr (m2.pre.subset in1), fun t ht => ?_⟩
      rcases m2.closed t ht with z | z
      · rcases m1.closed t z with y | y
        · rcases List.mem_append.mp y with x | x
          · exact .inl x
          · rw [List.mem_singleton.mp x]
            exact .inr ⟨node, m1.done.mono fun _ q => m2.pre.subset q, m2.done⟩
        · exact .inr ⟨y.1, y.2.1.mono fun _ q => m2.pre.subset q, y.2.2.mono fun _ q => m2.pre.subset q⟩
      · exact .inr z
/-- where one goes on is told alike by all longer lists of nodes -/
theorem refOf_pre {ns ns' : List Row} {l : Row} (d : Done ns l) (p : ns <+: ns') : refOf ns' l = refOf ns l := by
  unfold refOf
  by_cases c : isConstant (top VARS l) = true
  · simp only [if_pos c]
  · simp only [if_neg c]
    obtain ⟨r, rfl⟩ := p
    have hm : top VARS l ∈ ns := d.elim (fun z => absurd z c) id
    rw [List.idxOf_append, if_pos hm]
theorem pow_log (j : Nat) : Nat.log2 (2 ^ j) = j := Nat.log2_two_pow
end TQ
end
section
set_option Elab.async false
set_option maxRecDepth 4000
namespace TQ
open Diag
/-! ### the case that an order and a number stand for, bit by bit -/
theorem isOrder_len {o : List Nat} (h : isOrder o = true) : o.length = 10 := by
  unfold isOrder at h
  simp only [Bool.and_eq_true, beq_iff_eq] at h
  exact h.1
theorem isOrder_mem {o : List Nat} (h : isOrder o = true) {v : Nat} (hv : v < 10) : v ∈ o := by
  unfold isOrder at h
  simp only [Bool.and_eq_true] at h; have := List.all_eq_true.mp h.2 v (by simpa [VARS] using hv)
  simpa using this
theorem nodup_perm : ∀ (l o : List Nat), l.Nodup → (∀ v ∈ l, v ∈ o) → o.length ≤ l.length → l.Perm o
  | [], o, _, _, hl => by
    have : o = [] := List.eq_nil_of_length_eq_zero (by simpa using hl)
    rw [this]
  | a :: l, o, nd, hs, hl => by
    have ha : a ∈ o := hs a (List.mem_cons_self ..)
    have p : o.Perm (a :: o.erase a) := List.perm_cons_erase ha
    rw [List.nodup_cons] at nd
    have q := nodup_perm l (o.erase a) nd.2 (fun v hv => (List.mem_erase_of_ne (fun (e : v = a) => nd.1 (by rw [← e]; exact hv))).mpr (hs v (List.mem_cons_of_mem _ hv))) (by
      have := p.length_eq
      simp only [List.length_cons] at this hl
      omega)
    exact (q.cons a).trans p.symm
theorem range_sub_perm {o : List Nat} (hl : o.length = 10) (hm : ∀ v, v < 10 → v ∈ o) : (List.range 10).Perm o :=
  nodup_perm _ _ List.nodup_range (fun v hv => hm v (by simpa using hv)) (by simp [hl])
theorem isOrder_perm {o : List Nat} (h : isOrder o = true) : (List.range 10).Perm o := range_sub_perm (isOrder_len h) fun _ hv => isOrder_mem h hv
theorem isOrder_nodup {o : List Nat} (h : isOrder o = true) : o.Nodup := (isOrder_perm h).nodup_iff.mp List.nodup_range
theorem isOrder_lt {o : List Nat} (h : isOrder o = true) {v : Nat} (hv : v ∈ o) : v < 10 := by simpa using (isOrder_perm h).mem_iff.mpr hv
theorem isOrder_iff {o : List Nat} : isOrder o = true ↔ (List.range 10).Perm o := by
  refine ⟨isOrder_perm, fun p => ?_⟩
  unfold isOrder
  simp only [Bool.and_eq_true, beq_iff_eq, VARS]
  refine ⟨by have := p.length_eq; simpa using this.symm, List.all_eq_true.mpr fun v hv => ?_⟩
  have := p.mem_iff.mp hv
  simpa using this
theorem add_pow_bits {m v i : Nat} (h : m.testBit v = false) : (m + 2 ^ v).testBit i = (m.testBit i || decide (v = i)) := by
  rw [← or_pow v m h, Nat.testBit_or, Nat.testBit_two_pow]
/-- the fold of caseBy, from any start and any place -/
def cb (j : Nat) (l : List (Nat × Nat)) (m : Nat) : Nat := l.foldl (fun (m : Nat) (x : Nat × Nat) => if j.testBit (VARS - 1 - x.2) = true then m + 2 ^ x.1 else m) m
theorem cb_bits (j : Nat) : ∀ (l : List (Nat × Nat)) (m : Nat), (l.map (·.1)).Nodup → (∀ x ∈ l, m.testBit x.1 = false) →
    ∀ v, (cb j l m).testBit v = (m.testBit v || l.any fun x => decide (x.1 = v) && j.testBit (9 - x.2))
  | [], m, _, _, v => by simp [cb]
  | x :: l, m, nd, h, v => by
    have nd' : (l.map (·.1)).Nodup := by
      rw [List.map_cons, List.nodup_cons] at nd; exact nd.2
    have nx : ∀ y ∈ l, y.1 ≠ x.1 := fun y hy e => by
      rw [List.map_cons, List.nodup_cons] at nd; exact nd.1 (e ▸ List.mem_map_of_mem hy)
    have hx := h x (List.mem_cons_self ..)
    show (cb j l (if j.testBit (VARS - 1 - x.2) = true then m + 2 ^ x.1 else m)).testBit v = _
    by_cases c : j.testBit (VARS - 1 - x.2) = true
    · rw [if_pos c, cb_bits j l _ nd' fun y hy => by rw [add_pow_bits hx, h y (List.mem_cons_of_mem _ hy)]; simp [Ne.symm (nx y hy)]]
      rw [add_pow_bits hx, List.any_cons]
      have c' : j.testBit (9 - x.2) = true := c
      rw [c', Bool.and_true, Bool.or_assoc]
    · rw [if_neg c, cb_bits j l m nd' fun y hy => h y (List.mem_cons_of_mem _ hy), List.any_cons]
      have c' : j.testBit (9 - x.2) = false := by simpa [VARS] using c
      rw [c', Bool.and_false, Bool.false_or]
theorem caseBy_bits {o : List Nat} (nd : o.Nodup) (j v : Nat) : (caseBy o j).testBit v = (o.zipIdx.any fun x => decide (x.1 = v) && j.testBit (9 - x.2)) := by
  have := cb_bits j o.zipIdx 0 (by rw [List.zipIdx_map_fst]; exact nd) (fun x _ => Nat.zero_testBit _) v
  rw [Nat.zero_testBit, Bool.false_or] at this
  exact this
/-- in the case of j the i-th variable of the order has the bit that is the i-th from the front -/
theorem caseBy_at {o : List Nat} (nd : o.Nodup) {i v : Nat} (h : o[i]? = some v) (j : Nat) : (caseBy o j).testBit v = j.testBit (9 - i) := by
  rw [caseBy_bits nd]
  have hm : (v, i) ∈ o.zipIdx := by rw [List.mk_mem_zipIdx_iff_getElem?]; exact h
  have hu : ∀ x ∈ o.zipIdx, x.1 = v → x.2 = i := fun x hx e => by
    have h2 : o[x.2]? = some x.1 := by rw [← List.mk_mem_zipIdx_iff_getElem?]; exact hx
    rw [e] at h2
    obtain ⟨a1, a2⟩ := List.getElem?_eq_some_iff.mp h
    obtain ⟨b1, b2⟩ := List.getElem?_eq_some_iff.mp h2
    exact (List.getElem_inj nd).mp (b2.trans a2.symm)
  cases e : j.testBit (9 - i)
  · rw [Bool.eq_false_iff]
    intro c
    obtain ⟨x, hx, q⟩ := List.any_eq_true.mp c
    simp only [Bool.and_eq_true, decide_eq_true_eq] at q; rw [hu x hx q.1, e] at q
    exact Bool.noConfusion q.2
  · refine List.any_eq_true.mpr ⟨(v, i), hm, ?_⟩
    simp [e]
theorem caseBy_out {o : List Nat} (nd : o.Nodup) {v : Nat} (h : v ∉ o) (j : Nat) : (caseBy o j).testBit v = false := by
  rw [caseBy_bits nd, Bool.eq_false_iff]
  intro c
  obtain ⟨x, hx, q⟩ := List.any_eq_true.mp c
  simp only [Bool.and_eq_true, decide_eq_true_eq] at q; have h2 : o[x.2]? = some x.1 := by rw [← List.mk_mem_zipIdx_iff_getElem?]; exact hx
  exact h (q.1 ▸ List.mem_of_getElem? h2)
theorem caseBy_lt {o : List Nat} (h : isOrder o = true) (j : Nat) : caseBy o j < 1024 := by
  have : caseBy o j < 2 ^ 10 := by
    apply Nat.lt_pow_two_of_testBit
    intro i hi
    exact caseBy_out (isOrder_nodup h) (fun q => by have := isOrder_lt h q; omega) j
  exact this
theorem rowOf_len (o : List Nat) (f : Nat) : (rowOf o f).length = 2 ^ 10 := by simp [rowOf, CASES]
end TQ
end
section
set_option Elab.async false
set_option maxRecDepth 4000
namespace TQ
open Diag
/-! ### the rows of functions that don't hang on the first variables of an order -/
def R (o : List Nat) (k : Nat) (g : Nat → Bool) : Row := (List.range (2 ^ (10 - k))).map fun j => g (caseBy o j)
theorem R_len (o : List Nat) (k : Nat) (g : Nat → Bool) : (R o k g).length = 2 ^ (10 - k) := by simp [R]
theorem R_row (o : List Nat) (f : Nat) : rowOf o f = R o 0 (value f) := rfl
theorem setVar_bits (m v : Nat) (z : Bool) (i : Nat) : (setVar m v z).testBit i = if v = i then z else m.testBit i := by
  unfold setVar
  by_cases h : m.testBit v = z
  · rw [if_pos h]
    by_cases e : v = i
    · rw [if_pos e, ← e, h]
    · rw [if_neg e]
  · rw [if_neg h]
    cases z
    · simp only [Bool.false_eq_true, if_false]; have hv : m.testBit v = true := by simpa using h
      have e1 := setVar_or m v false
      have e2 : setVar m v false = m - 2 ^ v := by unfold setVar; rw [if_neg h]; rfl
      have hge : 2 ^ v ≤ m := Nat.ge_two_pow_of_testBit hv
      have e4 : (m - 2 ^ v).testBit v = false := by
        cases q : (m - 2 ^ v).testBit v
        · rfl
        · exfalso
          have h1 := Nat.testBit_two_pow_add_eq (m - 2 ^ v) v
          rw [show 2 ^ v + (m - 2 ^ v) = m by omega, hv, q] at h1
          exact Bool.noConfusion h1
      by_cases e : v = i
      · rw [if_pos e, ← e, e4]
      · rw [if_neg e]
        have h2 := add_pow_bits (i := i) e4
        rw [show m - 2 ^ v + 2 ^ v = m by omega] at h2
        rw [h2]
        simp [e]
    · simp only [if_true]
      have hv : m.testBit v = false := by simpa using h
      rw [add_pow_bits hv]
      by_cases e : v = i
      · rw [if_pos e]; simp [e]
      · rw [if_neg e]; simp [e]
theorem range_take (n k : Nat) (h : n ≤ k) : (List.range k).take n = List.range n := by
  rw [List.take_range, Nat.min_eq_left h]
theorem two_pow_half {k : Nat} (hk : k < 10) : 2 ^ (10 - k) = 2 * 2 ^ (10 - (k + 1)) := by
  rw [show 10 - k = (10 - (k + 1)) + 1 by omega, Nat.pow_succ, Nat.mul_comm]
theorem R_low {o : List Nat} {k : Nat} (hk : k < 10) (g : Nat → Bool) : low (R o k g) = R o (k + 1) g := by
  unfold low
  rw [R_len]
  unfold R
  rw [← List.map_take, range_take _ _ (Nat.div_le_self _ _), two_pow_half hk, Nat.mul_div_cancel_left _ (by decide)]
theorem case_split {o : List Nat} (ho : isOrder o = true) {k v j : Nat} (hk : k < 10) (hv : o[k]? = some v) (hj : j < 2 ^ (10 - (k + 1))) :
    caseBy o (2 ^ (10 - (k + 1)) + j) = setVar (caseBy o j) v true ∧ caseBy o j = setVar (caseBy o j) v false := by
  have nd := isOrder_nodup ho
  have len := isOrder_len ho
  have e9 : 10 - (k + 1) = 9 - k := by omega
  have at_ : ∀ i, (∃ q, q < 10 ∧ o[q]? = some i) ∨ i ∉ o := fun i => by
    by_cases h : i ∈ o
    · obtain ⟨q, hq, e⟩ := List.getElem_of_mem h
      exact .inl ⟨q, by omega, by rw [List.getElem?_eq_getElem hq, e]⟩
    · exact .inr h
  have top0 : j.testBit (9 - k) = false := Nat.testBit_lt_two_pow (by rw [← e9]; exact hj)
  constructor
  · apply Nat.eq_of_testBit_eq
    intro i
    rw [setVar_bits]
    rcases at_ i with ⟨q, hq, hi⟩ | hi
    · rw [caseBy_at nd hi, caseBy_at nd hi, e9]
      have vi : v = i ↔ k = q := by
        obtain ⟨a1, a2⟩ := List.getElem?_eq_some_iff.mp hv
        obtain ⟨b1, b2⟩ := List.getElem?_eq_some_iff.mp hi
        constructor
        · intro e
          exact (List.getElem_inj nd).mp (a2.trans (e.trans b2.symm))
        · intro e
          subst e
          exact a2.symm.trans b2
      by_cases c : v = i
      · rw [if_pos c, ← vi.mp c, Nat.testBit_two_pow_add_eq, top0]
        rfl
      · rw [if_neg c]
        have kq : k ≠ q := fun e => c (vi.mpr e)
        rcases Nat.lt_or_gt_of_ne kq with h | h
        · exact Nat.testBit_two_pow_add_gt (by omega) j
        · have z1 : j.testBit (9 - q) = false := Nat.testBit_lt_two_pow (Nat.lt_of_lt_of_le (show j < 2 ^ (9 - k) by rw [← e9]; exact hj) (Nat.pow_le_pow_right (by decide) (by omega)))
          have z2 : (2 ^ (9 - k) + j).testBit (9 - q) = false := by
            apply Nat.testBit_lt_two_pow
            have : 2 ^ (9 - k + 1) ≤ 2 ^ (9 - q) := Nat.pow_le_pow_right (by decide) (by omega)
            rw [Nat.pow_succ] at this
            rw [e9] at hj
            omega
          rw [z1, z2]
    · rw [caseBy_out nd hi, caseBy_out nd hi]
      rw [if_neg fun (e : v = i) => hi (by rw [← e]; exact List.mem_of_getElem? hv)]
  · apply Nat.eq_of_testBit_eq
    intro i
    rw [setVar_bits]
    by_cases c : v = i
    · rw [if_pos c, ← c, caseBy_at nd hv, top0]
    · rw [if_neg c]
theorem R_high {o : List Nat} (ho : isOrder o = true) {k v : Nat} (hk : k < 10) (hv : o[k]? = some v) (g : Nat → Bool) : high (R o k g) = R o (k + 1) fun m => g (setVar m v true) := by
  unfold high
  rw [R_len]
  unfold R
  rw [two_pow_half hk, Nat.mul_div_cancel_left _ (by decide)]
  apply List.ext_getElem
  · rw [List.length_drop, List.length_map, List.length_range, List.length_map, List.length_range]
    omega
  · intro i h1 h2
    rw [List.length_map, List.length_range] at h2
    simp only [List.getElem_drop, List.getElem_map, List.getElem_range]
    rw [(case_split ho hk hv (j := i) h2).1]
theorem R_low' {o : List Nat} (ho : isOrder o = true) {k v : Nat} (hk : k < 10) (hv : o[k]? = some v) (g : Nat → Bool) : low (R o k g) = R o (k + 1) fun m => g (setVar m v false) := by
  rw [R_low hk]
  unfold R
  refine List.map_congr_left fun j hj => ?_
  exact congrArg g (case_split ho hk hv (j := j) (List.mem_range.mp hj)).2
/-- not hanging on the first k variables of the order -/
def Ind (o : List Nat) (k : Nat) (g : Nat → Bool) : Prop := ∀ (i v : Nat), i < k → o[i]? = some v → ∀ m, m < 1024 → ∀ z, g (setVar m v z) = g m
theorem Ind.fix {o : List Nat} (ho : isOrder o = true) {k v : Nat} {g : Nat → Bool} (h : Ind o k g) (hk : k < 10) (hv : o[k]? = some v) (z : Bool) : Ind o (k + 1) fun m => g (setVar m v z) := by
  intro i u hi hu m hm y
  have vlt : v < 10 := isOrder_lt ho (List.mem_of_getElem? hv)
  have ult : u < 10 := isOrder_lt ho (List.mem_of_getElem? hu)
  by_cases e : i = k
  · subst e
    rw [hu] at hv
    cases hv
    show g (setVar (setVar m v y) v z) = g (setVar m v z)
    congr 1
    apply Nat.eq_of_testBit_eq
    intro q
    simp only [setVar_bits]
    split <;> rfl
  · have uv : u ≠ v := fun x => e (by
      obtain ⟨a1, a2⟩ := List.getElem?_eq_some_iff.mp hv
      obtain ⟨b1, b2⟩ := List.getElem?_eq_some_iff.mp hu
      exact (List.getElem_inj (isOrder_nodup ho)).mp (b2.trans (x.trans a2.symm)))
    have sw : setVar (setVar m u y) v z = setVar (setVar m v z) u y := by
      apply Nat.eq_of_testBit_eq
      intro q
      simp only [setVar_bits]
      by_cases c1 : v = q
      · by_cases c2 : u = q
        · exact absurd (c2.trans c1.symm) uv
        · simp [c1, c2]
      · simp [c1]
    show g (setVar (setVar m u y) v z) = g (setVar m v z)
    rw [sw]
    exact h i u (by omega) hu _ (setVar_lt hm vlt) y
theorem caseBy_onto {o : List Nat} (ho : isOrder o = true) {k m : Nat} (hm : m < 1024) (h0 : ∀ i v, i < k → o[i]? = some v → m.testBit v = false) : ∃ j, j < 2 ^ (10 - k) ∧ caseBy o j = m := by
  have nd := isOrder_nodup ho
  have len := isOrder_len ho
  have bits : ∀ i, ((List.range 10).foldr (fun (i n : Nat) => 2 * n + (if m.testBit (o.getD (9 - i) 0) = true then 1 else 0)) 0).testBit i = if i < 10 then m.testBit (o.getD (9 - i) 0) else false := fun i => by
    rw [fold_bit fun i => m.testBit (o.getD (9 - i) 0)]
    by_cases h : i < 10
    · rw [List.getElem?_range h, if_pos h]
      rfl
    · rw [List.getElem?_eq_none (by simpa using h), if_neg h]
      rfl
  refine ⟨(List.range 10).foldr (fun (i n : Nat) => 2 * n + (if m.testBit (o.getD (9 - i) 0) = true then 1 else 0)) 0, ?_, ?_⟩
  rotate_left
  · apply Nat.eq_of_testBit_eq
    intro i
    by_cases h : i ∈ o
    · obtain ⟨q, hq, e⟩ := List.getElem_of_mem h
      have hi : o[q]? = some i := by rw [List.getElem?_eq_getElem hq, e]
      rw [caseBy_at nd hi, bits, if_pos (by omega), show 9 - (9 - q) = q by omega, List.getD_eq_getElem?_getD, hi]
      rfl
    · rw [caseBy_out nd h]
      have : 10 ≤ i := Nat.le_of_not_lt fun x => h (isOrder_mem ho x)
      exact (Nat.testBit_lt_two_pow (Nat.lt_of_lt_of_le hm (Nat.pow_le_pow_right (n := 2) (i := 10) (by decide) this))).symm
  · apply Nat.lt_pow_two_of_testBit
    intro i hi
    rw [bits]
    by_cases h : i < 10
    · rw [if_pos h]
      have hq : 9 - i < o.length := by omega
      have e : o[9 - i]? = some o[9 - i] := List.getElem?_eq_getElem hq
      rw [List.getD_eq_getElem?_getD, e]; exact h0 (9 - i) _ (by omega) e
    · rw [if_neg h]
theorem clear_first {o : List Nat} (ho : isOrder o = true) {k : Nat} {g g' : Nat → Bool} (h : Ind o k g) (h' : Ind o k g') : ∀ n, n ≤ k → n ≤ 10 → ∀ m, m < 1024 → ∃ m', m' < 1024 ∧ (∀ i v, i < n → o[i]? = some v → m'.testBit v = false) ∧ g m' = g m ∧ g' m' = g' m
  | 0, _, _, m, hm => ⟨m, hm, fun i v hi => absurd hi (Nat.not_lt_zero i), rfl, rfl⟩
  | n + 1, hn, h10, m, hm => by
    obtain ⟨m', a, b, c, d⟩ := clear_first ho h h' n (by omega) (by omega) m hm
    have hq : n < o.length := by rw [isOrder_len ho]; omega
    have e : o[n]? = some o[n] := List.getElem?_eq_getElem hq
    have vlt : o[n] < 10 := isOrder_lt ho (List.getElem_mem hq)
    refine ⟨setVar m' o[n] false, setVar_lt a vlt, fun i v hi hv => ?_, (h n _ (by omega) e m' a false).trans c, (h' n _ (by omega) e m' a false).trans d⟩
    rw [setVar_bits]
    by_cases q : o[n] = v
    · rw [if_pos q]
    · rw [if_neg q]
      refine b i v ?_ hv
      rcases Nat.lt_or_ge i n with z | z
      · exact z
      · exfalso
        have : i = n := by omega
        subst this
        rw [e] at hv
        exact q (Option.some.inj hv)
theorem R_inj {o : List Nat} (ho : isOrder o = true) {k : Nat} (hk : k ≤ 10) {g g' : Nat → Bool} (h : Ind o k g) (h' : Ind o k g') : R o k g = R o k g' ↔ ∀ m, m < 1024 → g m = g' m := by
  constructor
  · intro e m hm
    obtain ⟨m', a, b, c, d⟩ := clear_first ho h h' k (Nat.le_refl _) hk m hm
    obtain ⟨j, hj, ej⟩ := caseBy_onto ho a b
    have : (R o k g)[j]? = (R o k g')[j]? := by rw [e]
    unfold R at this
    rw [List.getElem?_map, List.getElem?_map, List.getElem?_range hj] at this
    have : g (caseBy o j) = g' (caseBy o j) := Option.some.inj this
    rw [ej] at this
    rw [← c, ← d, this]
  · intro e
    exact List.map_congr_left fun j _ => e _ (caseBy_lt ho j)
theorem R_congr {o : List Nat} (ho : isOrder o = true) {k : Nat} {g g' : Nat → Bool} (e : ∀ m, m < 1024 → g m = g' m) : R o k g = R o k g' := List.map_congr_left fun j _ => e _ (caseBy_lt ho j)
/-- whether a variable matters to a function -/
def Hangs (g : Nat → Bool) (v : Nat) : Prop := ∃ m, m < 1024 ∧ g (setVar m v false) ≠ g (setVar m v true)
theorem halves_iff {o : List Nat} (ho : isOrder o = true) {k v : Nat} (hk : k < 10) (hv : o[k]? = some v) {g : Nat → Bool} (h : Ind o k g) : low (R o k g) = high (R o k g) ↔ ¬ Hangs g v := by
  rw [R_low' ho hk hv, R_high ho hk hv, R_inj ho hk (h.fix ho hk hv false) (h.fix ho hk hv true)]
  constructor
  · rintro e ⟨m, hm, ne⟩
    exact ne (e m hm)
  · intro c m hm
    exact Decidable.byContradiction fun ne => c ⟨m, hm, ne⟩
theorem setVar_self (m v : Nat) : setVar m v (m.testBit v) = m := by unfold setVar; rw [if_pos rfl]
theorem Ind.more {o : List Nat} {k v : Nat} {g : Nat → Bool} (h : Ind o k g) (hv : o[k]? = some v) (c : ¬ Hangs g v) : Ind o (k + 1) g := by
  intro i u hi hu m hm z
  by_cases e : i = k
  · subst e
    rw [hu] at hv
    cases hv
    have q : g (setVar m v false) = g (setVar m v true) := Decidable.byContradiction fun ne => c ⟨m, hm, ne⟩
    have s := setVar_self m v
    have : ∀ x y, g (setVar m v x) = g (setVar m v y) := fun x y => by cases x <;> cases y <;> simp [q]
    rw [this z (m.testBit v), s]
  · exact h i u (by omega) hu m hm z
theorem top_R_more {o : List Nat} (ho : isOrder o = true) {n k v : Nat} (hk : k < 10) (hv : o[k]? = some v) {g : Nat → Bool} (h : Ind o k g) (c : ¬ Hangs g v) : top (n + 1) (R o k g) = top n (R o (k + 1) g) := by
  conv => lhs; unfold top
  rw [if_pos (by simpa using (halves_iff ho hk hv h).mpr c), R_low hk]
theorem top_R_here {o : List Nat} (ho : isOrder o = true) {n k v : Nat} (hk : k < 10) (hv : o[k]? = some v) {g : Nat → Bool} (h : Ind o k g) (c : Hangs g v) : top n (R o k g) = R o k g := by
  cases n with
  | zero => rfl
  | succ n =>
    unfold top
    rw [if_neg (by
      intro e
      exact (halves_iff ho hk hv h).mp (by simpa using e) c)]
end TQ
end
section
set_option Elab.async false
set_option maxRecDepth 4000
namespace TQ
open Diag
/-! ### rows without their front: alike by all sufficient fuels; rows that are so -/
theorem top_fuel : ∀ (n m k : Nat) (l : Row), l.length = 2 ^ k → k ≤ n → k ≤ m → top n l = top m l
  | 0, 0, _, _, _, _, _ => rfl
  | 0, m + 1, k, l, h, h1, _ => by
    have : k = 0 := by omega
    subst this
    unfold top
    rw [if_neg (one_ne (by simpa using h))]
  | n + 1, 0, k, l, h, _, h1 => by
    have : k = 0 := by omega
    subst this
    unfold top
    rw [if_neg (one_ne (by simpa using h))]
  | n + 1, m + 1, 0, l, h, _, _ => by
    unfold top
    rw [if_neg (one_ne (by simpa using h)), if_neg (one_ne (by simpa using h))]
  | n + 1, m + 1, k + 1, l, h, h1, h2 => by
    unfold top
    by_cases e : (low l == high l) = true
    · rw [if_pos e, if_pos e]
      exact top_fuel n m k (low l) (low_len h) (by omega) (by omega)
    · rw [if_neg e, if_neg e]
/-- a row of 2 ^ j values that hangs on its first variable, or one value -/
structure Tpd (j : Nat) (t : Row) : Prop where
  le : j ≤ 10
  len : t.length = 2 ^ j
  ne : 1 ≤ j → low t ≠ high t
theorem Top.tpd {k j : Nat} {l t : Row} (h : Top k l t j) (hk : k ≤ 10) : Tpd j t := ⟨Nat.le_trans h.le hk, h.len, h.ne⟩
theorem tpd_of {k : Nat} {l : Row} (h : l.length = 2 ^ k) (hk : k ≤ 10) : ∃ j, j ≤ k ∧ Tpd j (top VARS l) := by
  obtain ⟨j, hj⟩ := top_is VARS k l h hk
  exact ⟨j, hj.le, hj.tpd hk⟩
theorem Tpd.top {j : Nat} {t : Row} (h : Tpd j t) : top VARS t = t := by
  show (if (low t == high t) = true then _ else _) = _
  cases j with
  | zero => rw [if_neg (one_ne (by simpa using h.len))]
  | succ j => rw [if_neg (by simpa using h.ne (by omega))]
theorem Tpd.const {j : Nat} {t : Row} (h : Tpd j t) : isConstant t = true ↔ j = 0 :=
  Top.const_iff (k := j) (l := t) ⟨Nat.le_refl _, h.len, h.ne⟩
theorem top_top {k : Nat} {l : Row} (h : l.length = 2 ^ k) (hk : k ≤ 10) : top VARS (top VARS l) = top VARS l := by
  obtain ⟨j, _, hj⟩ := tpd_of h hk
  exact hj.top
theorem meet_top {k : Nat} (n : Nat) (had : List Row) {l : Row} (h : l.length = 2 ^ k) (hk : k ≤ 10) : meet n had (top VARS l) = meet n had l := by
  cases n with
  | zero => rfl
  | succ n =>
    unfold meet
    rw [top_top h hk]
/-- one turn of meet, of a row that is so -/
theorem meet_one {had : List Row} {t : Row} (n : Nat) (h : Tpd 0 t) : meet n had t = had := by
  cases n with
  | zero => rfl
  | succ n =>
    unfold meet
    simp only [h.top]
    rw [if_pos (.inl (h.const.mpr rfl))]
theorem meet_had {j : Nat} {had : List Row} {t : Row} (n : Nat) (h : Tpd j t) (m : t ∈ had) : meet n had t = had := by
  cases n with
  | zero => rfl
  | succ n =>
    unfold meet
    simp only [h.top]
    rw [if_pos (.inr (by simpa using m))]
theorem meet_new {j : Nat} {had : List Row} {t : Row} (n : Nat) (h : Tpd (j + 1) t) (m : t ∉ had) : meet (n + 1) had t = meet n (meet n (had ++ [t]) (low t)) (high t) := by
  conv => lhs; unfold meet
  simp only [h.top]
  rw [if_neg]
  rintro (c | c)
  · have := h.const.mp c
    omega
  · exact m (by simpa using c)
theorem meet_len : ∀ (n k : Nat) (had : List Row) (l : Row), l.length = 2 ^ k → k ≤ 10 → (meet n had l).length ≤ had.length + (2 ^ k - 1)
  | 0, k, had, l, _, _ => by
    show had.length ≤ _
    omega
  | n + 1, k, had, l, h, hk => by
    obtain ⟨j, hjk, hj⟩ := tpd_of h hk
    rw [← meet_top (n + 1) had h hk]
    have p2 : 2 ^ j ≤ 2 ^ k := Nat.pow_le_pow_right (by decide) hjk
    have p1 : 1 ≤ 2 ^ j := Nat.one_le_two_pow
    cases j with
    | zero =>
      rw [meet_one _ hj]
      omega
    | succ j =>
      by_cases m : top VARS l ∈ had
      · rw [meet_had _ hj m]
        omega
      · rw [meet_new n hj m]
        have h1 := meet_len n j (had ++ [top VARS l]) (low (top VARS l)) (low_len hj.len) (by have := hj.le; omega)
        have h2 := meet_len n j (meet n (had ++ [top VARS l]) (low (top VARS l))) (high (top VARS l)) (high_len hj.len) (by have := hj.le; omega)
        rw [List.length_append, List.length_singleton] at h1
        have p : 2 ^ (j + 1) = 2 * 2 ^ j := by rw [Nat.pow_succ, Nat.mul_comm]
        have q : 1 ≤ 2 ^ j := Nat.one_le_two_pow
        omega
/-- a row as it's told, of one that is so -/
def refT (ns : List Row) (t : Row) : Nat := if t.length = 1 then (if t.headD false = true then 1 else 0) else ns.idxOf t + 2
theorem refT_of {k : Nat} {ns : List Row} {l : Row} (h : l.length = 2 ^ k) (hk : k ≤ 10) : refOf ns l = refT ns (top VARS l) := by
  obtain ⟨j, hjk, hj⟩ := tpd_of h hk
  unfold refOf refT
  simp only
  by_cases c : isConstant (top VARS l) = true
  · have e := hj.const.mp c
    subst e
    have hl : (top VARS l).length = 1 := by simpa using hj.len
    rw [if_pos c, if_pos hl]
  · have e : j ≠ 0 := fun e => c (hj.const.mpr e)
    have : 2 ≤ 2 ^ j := by
      have := Nat.pow_le_pow_right (n := 2) (by decide) (show 1 ≤ j by omega)
      omega
    rw [if_neg c, if_neg (by rw [hj.len]; omega), Nat.add_comm]
/-- all that the nodes of a diagram go on to stands among them -/
theorem nodes_closed {k : Nat} {l : Row} (h : l.length = 2 ^ k) (hk : k ≤ 10) : Done (meet (VARS + 1) [] l) l ∧ ∀ t ∈ meet (VARS + 1) [] l, IsNode t ∧ Done (meet (VARS + 1) [] l) (low t) ∧ Done (meet (VARS + 1) [] l) (high t) := by
  have m := meet_met (VARS + 1) k [] l h (by show k ≤ 11; omega) hk List.nodup_nil
  refine ⟨m.done, fun t ht => ?_⟩
  rcases m.closed t ht with z | z
  · cases z
  · exact z
theorem nodes_nodup {k : Nat} {l : Row} (h : l.length = 2 ^ k) (hk : k ≤ 10) : (meet (VARS + 1) [] l).Nodup := (meet_met (VARS + 1) k [] l h (by show k ≤ 11; omega) hk List.nodup_nil).nd
theorem IsNode.tpd {t : Row} (h : IsNode t) : ∃ j, Tpd (j + 1) t := by
  obtain ⟨j, h1, h2, h3⟩ := h
  exact ⟨j, by omega, h2, fun _ => h3⟩
end TQ
end
section
set_option Elab.async false
set_option maxRecDepth 4000
namespace TQ
open Diag
/-! ### the cases of an order's variables, the first doubled last -/
def casesOf : List Nat → List Nat
  | [] => [0]
  | v :: r => casesOf r ++ (casesOf r).map (· + 2 ^ v)
theorem casesOf_len : ∀ r : List Nat, (casesOf r).length = 2 ^ r.length
  | [] => rfl
  | v :: r => by
    show (casesOf r ++ (casesOf r).map (· + 2 ^ v)).length = 2 ^ (r.length + 1)
    rw [List.length_append, List.length_map, casesOf_len r, Nat.pow_succ]
    omega
theorem casesOf_bits : ∀ {r : List Nat}, r.Nodup → ∀ c ∈ casesOf r, ∀ u, u ∉ r → c.testBit u = false
  | [], _, c, hc, u, _ => by
    have : c = 0 := by simpa [casesOf] using hc
    rw [this, Nat.zero_testBit]
  | v :: r, nd, c, hc, u, hu => by
    rw [List.nodup_cons] at nd
    have h1 : u ≠ v := fun e => hu (by rw [e]; exact List.mem_cons_self ..)
    have h2 : u ∉ r := fun e => hu (List.mem_cons_of_mem _ e)
    rcases List.mem_append.mp hc with m | m
    · exact casesOf_bits nd.2 c m u h2
    · obtain ⟨d, hd, rfl⟩ := List.mem_map.mp m
      rw [add_pow_bits (casesOf_bits nd.2 d hd v nd.1), casesOf_bits nd.2 d hd u h2]
      simpa using Ne.symm h1
theorem casesOf_lt {r : List Nat} (nd : r.Nodup) (h : ∀ v ∈ r, v < 10) : ∀ c ∈ casesOf r, c < 1024 := fun c hc => by
  have : c < 2 ^ 10 := by
    apply Nat.lt_pow_two_of_testBit
    intro i hi
    exact casesOf_bits nd c hc i fun m => by have := h i m; omega
  exact this
theorem setVar_add {m v : Nat} (h : m.testBit v = false) : setVar m v true = m + 2 ^ v := by
  unfold setVar
  rw [h, if_neg (by decide), if_pos rfl]
theorem setVar_no {m v : Nat} (h : m.testBit v = false) : setVar m v false = m := by
  unfold setVar
  rw [h, if_pos rfl]
theorem caseBy_zero {o : List Nat} (nd : o.Nodup) : caseBy o 0 = 0 := by
  apply Nat.eq_of_testBit_eq
  intro i
  rw [caseBy_bits nd, Nat.zero_testBit, Bool.eq_false_iff]
  intro c
  obtain ⟨x, _, q⟩ := List.any_eq_true.mp c
  simp at q
/-- the row of an order is told by its cases -/
theorem casesOf_R {o : List Nat} (ho : isOrder o = true) : ∀ (n k : Nat) (g : Nat → Bool), k + n = 10 → (casesOf (o.drop k)).map g = R o k g
  | 0, k, g, e => by
    have hl := isOrder_len ho
    have : k = 10 := by omega
    subst this
    rw [List.drop_eq_nil_of_le (by omega)]
    show [g 0] = R o 10 g
    unfold R
    show _ = [g (caseBy o 0)]
    rw [caseBy_zero (isOrder_nodup ho)]
  | n + 1, k, g, e => by
    have hl := isOrder_len ho
    have hk : k < o.length := by omega
    have hv : o[k]? = some o[k] := List.getElem?_eq_getElem hk
    have hd : o.drop k = o[k] :: o.drop (k + 1) := List.drop_eq_getElem_cons hk
    have nd := isOrder_nodup ho
    have nd1 : (o[k] :: o.drop (k + 1)).Nodup := by rw [← hd]; exact nd.sublist (List.drop_sublist _ _)
    rw [List.nodup_cons] at nd1
    rw [hd]
    show (casesOf (o.drop (k + 1)) ++ (casesOf (o.drop (k + 1))).map (· + 2 ^ o[k])).map g = _
    rw [List.map_append, List.map_map]
    have e2 : (casesOf (o.drop (k + 1))).map (g ∘ fun x => x + 2 ^ o[k]) = (casesOf (o.drop (k + 1))).map fun m => g (setVar m o[k] true) :=
      List.map_congr_left fun c hc => by
        show g (c + 2 ^ o[k]) = g (setVar c o[k] true)
        rw [setVar_add (casesOf_bits nd1.2 c hc _ nd1.1)]
    rw [e2, casesOf_R ho n (k + 1) g (by omega), casesOf_R ho n (k + 1) (fun m => g (setVar m o[k] true)) (by omega)]
    rw [← R_low (by omega) g, ← R_high ho (by omega) hv g, low_high]
theorem casesOf_row {o : List Nat} (ho : isOrder o = true) (f : Nat) : (casesOf o).map (value f) = rowOf o f := by
  have := casesOf_R ho 10 0 (value f) rfl
  rw [List.drop_zero] at this
  rw [this, R_row]
/-! ### variables behind that don't matter: each value so often -/
def stretch (m : Nat) (l : Row) : Row := l.flatMap (List.replicate m)
theorem flatMap_ext {α β : Type} {f g : α → List β} : ∀ {l : List α}, (∀ a ∈ l, f a = g a) → l.flatMap f = l.flatMap g
  | [], _ => rfl
  | a :: l, h => by
    rw [List.flatMap_cons, List.flatMap_cons, h a (List.mem_cons_self ..), flatMap_ext fun b hb => h b (List.mem_cons_of_mem _ hb)]
theorem casesOf_app (s : List Nat) : ∀ r : List Nat, casesOf (r ++ s) = (casesOf r).flatMap fun b => (casesOf s).map (b + ·)
  | [] => by simp [casesOf]
  | v :: r => by
    show casesOf (r ++ s) ++ (casesOf (r ++ s)).map (· + 2 ^ v) = _
    rw [casesOf_app s r]
    show _ = (casesOf r ++ (casesOf r).map (· + 2 ^ v)).flatMap _
    rw [List.flatMap_append, List.map_flatMap, List.flatMap_map]
    congr 1
    refine flatMap_ext fun b _ => ?_
    rw [List.map_map]
    exact List.map_congr_left fun c _ => by show b + c + 2 ^ v = b + 2 ^ v + c; omega
/-- behind r the variables s don't change g -/
theorem casesOf_free {g : Nat → Bool} {r : List Nat} {b : Nat} (hb : b ∈ casesOf r) : ∀ {s : List Nat}, (r ++ s).Nodup → (∀ v ∈ r ++ s, v < 10) → (∀ v ∈ s, ∀ m, m < 1024 → g (setVar m v false) = g (setVar m v true)) → ∀ c ∈ casesOf s, g (b + c) = g b
  | [], _, _, _, c, hc => by
    have : c = 0 := by simpa [casesOf] using hc
    rw [this, Nat.add_zero]
  | v :: s, nd, hlt, hg, c, hc => by
    have nd2 : (r ++ s).Nodup := nd.sublist (List.Sublist.append_left (List.sublist_cons_self v s) r)
    have hlt2 : ∀ u ∈ r ++ s, u < 10 := fun u hu => hlt u (by
      rcases List.mem_append.mp hu with m | m
      · exact List.mem_append_left _ m
      · exact List.mem_append_right _ (List.mem_cons_of_mem _ m))
    have ih := casesOf_free (g := g) hb nd2 hlt2 (fun u hu => hg u (List.mem_cons_of_mem _ hu))
    rcases List.mem_append.mp hc with m | m
    · exact ih c m
    · obtain ⟨d, hd, rfl⟩ := List.mem_map.mp m
      have hbd : b + d ∈ casesOf (r ++ s) := by
        rw [casesOf_app]
        exact List.mem_flatMap.mpr ⟨b, hb, List.mem_map.mpr ⟨d, hd, rfl⟩⟩
      have hv : v ∉ r ++ s := fun z => by
        have := List.nodup_append.mp nd
        rcases List.mem_append.mp z with z | z
        · exact this.2.2 v z v (List.mem_cons_self ..) rfl
        · exact (List.nodup_cons.mp this.2.1).1 z
      have bit := casesOf_bits nd2 _ hbd v hv
      have lt := casesOf_lt nd2 hlt2 _ hbd
      have e := hg v (List.mem_cons_self ..) (b + d) lt
      rw [setVar_add bit, setVar_no bit] at e
      show g (b + (d + 2 ^ v)) = g b
      rw [← Nat.add_assoc, ← e]
      exact ih d hd
theorem map_const_replicate {α β : Type} (f : α → β) (x : β) : ∀ l : List α, (∀ a ∈ l, f a = x) → l.map f = List.replicate l.length x
  | [], _ => rfl
  | a :: l, h => by
    rw [List.map_cons, h a (List.mem_cons_self ..), map_const_replicate f x l fun b hb => h b (List.mem_cons_of_mem _ hb)]
    rfl
theorem casesOf_stretch {g : Nat → Bool} {r s : List Nat} (nd : (r ++ s).Nodup) (hlt : ∀ v ∈ r ++ s, v < 10) (hg : ∀ v ∈ s, ∀ m, m < 1024 → g (setVar m v false) = g (setVar m v true)) :
    (casesOf (r ++ s)).map g = stretch (2 ^ s.length) ((casesOf r).map g) := by
  rw [casesOf_app, List.map_flatMap]
  unfold stretch
  rw [List.flatMap_map]
  refine flatMap_ext fun b hb => ?_
  rw [List.map_map, ← casesOf_len s]
  exact map_const_replicate _ _ _ fun c hc => casesOf_free (g := g) hb nd hlt hg c hc
/-! ### stretched rows have as many nodes -/
theorem stretch_len (m : Nat) : ∀ l : Row, (stretch m l).length = m * l.length
  | [] => rfl
  | b :: l => by
    show (List.replicate m b ++ stretch m l).length = m * (l.length + 1)
    rw [List.length_append, List.length_replicate, stretch_len m l, Nat.mul_succ]
    omega
theorem stretch_app (m : Nat) (l l' : Row) : stretch m (l ++ l') = stretch m l ++ stretch m l' := by unfold stretch; rw [List.flatMap_append]
theorem stretch_take (m n : Nat) (l : Row) (h : n ≤ l.length) : (stretch m l).take (m * n) = stretch m (l.take n) ∧ (stretch m l).drop (m * n) = stretch m (l.drop n) := by
  have e : stretch m l = stretch m (l.take n) ++ stretch m (l.drop n) := by rw [← stretch_app, List.take_append_drop]
  have hl : (stretch m (l.take n)).length = m * n := by rw [stretch_len, List.length_take, Nat.min_eq_left h]
  rw [e]
  exact ⟨by rw [← hl, List.take_left'] ; rfl, by rw [← hl, List.drop_left']; rfl⟩
theorem stretch_low (m : Nat) {l : Row} {k : Nat} (h : l.length = 2 ^ (k + 1)) : low (stretch m l) = stretch m (low l) ∧ high (stretch m l) = stretch m (high l) := by
  have e : (stretch m l).length / 2 = m * (l.length / 2) := by
    rw [stretch_len, h, Nat.pow_succ, ← Nat.mul_assoc, Nat.mul_div_cancel _ (by decide), Nat.mul_div_cancel _ (by decide)]
  unfold low high
  rw [e]
  exact stretch_take m (l.length / 2) l (Nat.div_le_self _ _)
theorem stretch_inj {m : Nat} (hm : 1 ≤ m) : ∀ {l l' : Row}, stretch m l = stretch m l' → l = l'
  | [], [], _ => rfl
  | [], b :: l', h => by
    have := congrArg List.length h; rw [stretch_len, stretch_len, List.length_cons, Nat.mul_succ] at this
    simp at this
    omega
  | b :: l, [], h => by
    have := congrArg List.length h; rw [stretch_len, stretch_len, List.length_cons, Nat.mul_succ] at this
    simp at this
    omega
  | a :: l, b :: l', h => by
    have h1 : List.replicate m a ++ stretch m l = List.replicate m b ++ stretch m l' := h
    obtain ⟨h2, h3⟩ := List.append_inj h1 (by simp)
    obtain ⟨n, rfl⟩ : ∃ n, m = n + 1 := ⟨m - 1, by omega⟩
    rw [List.replicate_succ, List.replicate_succ] at h2
    rw [(List.cons.inj h2).1, stretch_inj hm h3]
theorem top_replicate (b : Bool) : ∀ k : Nat, top k (List.replicate (2 ^ k) b) = [b]
  | 0 => rfl
  | k + 1 => by
    have e : low (List.replicate (2 ^ (k + 1)) b) = List.replicate (2 ^ k) b := by
      unfold low
      rw [List.length_replicate, List.take_replicate, Nat.pow_succ]
      congr 1
      omega
    have e' : high (List.replicate (2 ^ (k + 1)) b) = List.replicate (2 ^ k) b := by
      unfold high
      rw [List.length_replicate, List.drop_replicate, Nat.pow_succ]
      congr 1
      omega
    unfold top
    rw [e, e', if_pos (by simp)]
    exact top_replicate b k
/-- a stretched row's front goes as the row's; what is one value is so stretched -/
theorem top_stretch (s : Nat) : ∀ (k : Nat) (l : Row), l.length = 2 ^ k → k + s ≤ 10 → (∃ b, top VARS l = [b] ∧ top VARS (stretch (2 ^ s) l) = [b]) ∨ (∃ j, Tpd (j + 1) (top VARS l) ∧ j + 1 + s ≤ 10 ∧ top VARS (stretch (2 ^ s) l) = stretch (2 ^ s) (top VARS l))
  | 0, l, h, hs => by
    match l, h with
    | [b], _ =>
      refine .inl ⟨b, Tpd.top (j := 0) ⟨by omega, rfl, fun z => absurd z (by decide)⟩, ?_⟩
      have e : stretch (2 ^ s) [b] = List.replicate (2 ^ s) b := by simp [stretch]
      rw [e, ← top_replicate b s]
      exact top_fuel _ _ s _ (by simp) (by show s ≤ 10; omega) (Nat.le_refl _)
  | k + 1, l, h, hs => by
    have hsl : (stretch (2 ^ s) l).length = 2 ^ (k + 1 + s) := by rw [stretch_len, h, ← Nat.pow_add, Nat.add_comm]
    obtain ⟨s1, s2⟩ := stretch_low (2 ^ s) h
    by_cases c : low l = high l
    · have ih := top_stretch s k (low l) (low_len h) (by omega)
      have e1 : top VARS l = top VARS (low l) := by
        conv => lhs; unfold top
        show (if (low l == high l) = true then _ else _) = _
        rw [if_pos (by simpa using c)]
        exact top_fuel _ _ k _ (low_len h) (by show k ≤ 9; omega) (by show k ≤ 10; omega)
      have e2 : top VARS (stretch (2 ^ s) l) = top VARS (stretch (2 ^ s) (low l)) := by
        conv => lhs; unfold top
        show (if (low (stretch (2 ^ s) l) == high (stretch (2 ^ s) l)) = true then _ else _) = _
        rw [s1, s2, if_pos (by simpa using congrArg (stretch (2 ^ s)) c)]
        exact top_fuel _ _ (k + s) _ (by rw [stretch_len, low_len h, ← Nat.pow_add, Nat.add_comm]) (by show k + s ≤ 9; omega) (by show k + s ≤ 10; omega)
      rw [e1, e2]
      exact ih
    · have t1 : Tpd (k + 1) l := ⟨by omega, h, fun _ => c⟩
      have t2 : Tpd (k + 1 + s) (stretch (2 ^ s) l) := ⟨hs, hsl, fun _ z => c (by
        rw [s1, s2] at z
        exact stretch_inj Nat.one_le_two_pow z)⟩
      refine .inr ⟨k, ?_, by omega, ?_⟩
      · rw [t1.top]
        exact t1
      · rw [t1.top, t2.top]
theorem meet_stretch (s : Nat) : ∀ (n k : Nat) (had : List Row) (l : Row), l.length = 2 ^ k → k + s ≤ 10 → meet n (had.map (stretch (2 ^ s))) (stretch (2 ^ s) l) = (meet n had l).map (stretch (2 ^ s))
  | 0, _, _, _, _, _ => rfl
  | n + 1, k, had, l, h, hs => by
    have hsl : (stretch (2 ^ s) l).length = 2 ^ (k + s) := by rw [stretch_len, h, ← Nat.pow_add, Nat.add_comm]
    rw [← meet_top (n + 1) had h (by omega), ← meet_top (n + 1) _ hsl (by omega)]
    rcases top_stretch s k l h hs with ⟨b, e1, e2⟩ | ⟨j, t, hj, e⟩
    · have t0 : Tpd 0 [b] := ⟨by omega, rfl, fun z => absurd z (by decide)⟩
      rw [e1, e2, meet_one _ t0, meet_one _ t0]
    · rw [e]
      obtain ⟨s1, s2⟩ := stretch_low (2 ^ s) t.len
      have ts : Tpd (j + s + 1) (stretch (2 ^ s) (top VARS l)) := ⟨by omega, by rw [stretch_len, t.len, ← Nat.pow_add]; congr 1; omega, fun _ z => t.ne (by omega) (by
        rw [s1, s2] at z
        exact stretch_inj Nat.one_le_two_pow z)⟩
      by_cases m : top VARS l ∈ had
      · rw [meet_had _ t m, meet_had _ ts (List.mem_map_of_mem m)]
      · have m' : stretch (2 ^ s) (top VARS l) ∉ had.map (stretch (2 ^ s)) := fun z => by
          obtain ⟨x, hx, ex⟩ := List.mem_map.mp z
          exact m (by rw [← stretch_inj Nat.one_le_two_pow ex]; exact hx)
        rw [meet_new n t m, meet_new n ts m', s1, s2]
        have e2 : had.map (stretch (2 ^ s)) ++ [stretch (2 ^ s) (top VARS l)] = (had ++ [top VARS l]).map (stretch (2 ^ s)) := by rw [List.map_append]; rfl
        rw [e2, meet_stretch s n j _ _ (low_len t.len) (by omega), meet_stretch s n j _ _ (high_len t.len) (by omega)]
end TQ
end
section
set_option Elab.async false
set_option maxRecDepth 4000
namespace TQ
open Diag
/-! ### orders of some variables, by the first that differs -/
theorem map_flatMap_cons {α β : Type} (f : α → List β) (l : List α) : l.flatMap f = (l.map f).flatten := by rw [List.flatMap_def]
theorem arranged_step : ∀ (k : Nat) (l : List Nat), arranged (k + 1) l = (arranged k l).flatMap fun o => (l.filter fun v => !o.contains v).map fun v => o ++ [v]
  | 0, l => by
    show (l.flatMap fun x => ([[]] : List (List Nat)).map fun r => x :: r) = ([[]] : List (List Nat)).flatMap _
    have e : ([[]] : List (List Nat)).flatMap (fun o => (l.filter fun v => !o.contains v).map fun v => o ++ [v]) = l.map fun v => [v] := by
      rw [List.flatMap_cons, List.flatMap_nil, List.append_nil]
      have e0 : (l.filter fun v => !([] : List Nat).contains v) = l := List.filter_eq_self.mpr fun _ _ => rfl
      rw [e0]
      rfl
    rw [e]
    have : (fun x : Nat => ([[]] : List (List Nat)).map fun r => x :: r) = fun x => [[x]] := rfl
    rw [this]
    clear e this
    induction l with
    | nil => rfl
    | cons a l ih => rw [List.flatMap_cons, ih]; rfl
  | k + 1, l => by
    show (l.flatMap fun x => (arranged (k + 1) (l.filter fun y => y != x)).map fun r => x :: r) = _
    have e : (fun x => (arranged (k + 1) (l.filter fun y => y != x)).map fun r => x :: r) = fun x => (arranged k (l.filter fun y => y != x)).flatMap fun o => (l.filter fun v => !(x :: o).contains v).map fun v => (x :: o) ++ [v] := by
      funext x
      rw [arranged_step k (l.filter fun y => y != x), List.map_flatMap]
      refine flatMap_ext fun o _ => ?_
      rw [List.map_map, List.filter_filter]
      have : (fun v => (!o.contains v) && (v != x)) = fun v => !(x :: o).contains v := by
        funext v
        rw [List.contains_cons]
        cases o.contains v <;> cases h : (v == x) <;> simp [bne, h]
      rw [this]
      rfl
    rw [e]
    show _ = (l.flatMap fun x => (arranged k (l.filter fun y => y != x)).map fun r => x :: r).flatMap _
    rw [List.flatMap_assoc]
    refine flatMap_ext fun x _ => ?_
    rw [List.flatMap_map]
theorem arranged_mem : ∀ (k : Nat) (l : List Nat), l.Nodup → ∀ r ∈ arranged k l, r.Nodup ∧ (∀ v ∈ r, v ∈ l) ∧ r.length = k
  | 0, l, _, r, h => by
    have : r = [] := by simpa [arranged] using h
    subst this
    exact ⟨List.nodup_nil, by simp, rfl⟩
  | k + 1, l, nd, r, h => by
    obtain ⟨x, hx, h2⟩ := List.mem_flatMap.mp h
    obtain ⟨q, hq, rfl⟩ := List.mem_map.mp h2
    obtain ⟨a, b, c⟩ := arranged_mem k (l.filter fun y => y != x) (nd.filter _) q hq
    refine ⟨List.nodup_cons.mpr ⟨fun m => ?_, a⟩, fun v hv => ?_, by rw [List.length_cons, c]⟩
    · have := List.mem_filter.mp (b x m)
      simp at this
    · rcases List.mem_cons.mp hv with e | m
      · rw [e]; exact hx
      · exact (List.mem_filter.mp (b v m)).1
theorem flatMap_len {α β : Type} (f : α → List β) (n : Nat) : ∀ l : List α, (∀ a ∈ l, (f a).length ≤ n) → (l.flatMap f).length ≤ l.length * n
  | [], _ => by simp
  | a :: l, h => by
    rw [List.flatMap_cons, List.length_append, List.length_cons, Nat.succ_mul]
    have h1 := h a (List.mem_cons_self ..)
    have h2 := flatMap_len f n l fun b hb => h b (List.mem_cons_of_mem _ hb)
    omega
theorem arranged_count (l : List Nat) : ∀ k : Nat, (arranged k l).length ≤ l.length ^ k
  | 0 => by simp [arranged]
  | k + 1 => by
    rw [arranged_step k l, Nat.pow_succ]
    refine Nat.le_trans (flatMap_len _ l.length _ fun o _ => ?_) (Nat.mul_le_mul_right _ (arranged_count l k))
    rw [List.length_map]
    exact List.length_filter_le _ _
theorem arranged_head : ∀ (l : List Nat), l.Nodup → ∃ r, arranged l.length l = l :: r
  | [], _ => ⟨[], rfl⟩
  | x :: l, nd => by
    rw [List.nodup_cons] at nd
    obtain ⟨r, hr⟩ := arranged_head l nd.2
    have e : (x :: l).filter (fun y => y != x) = l := by
      rw [List.filter_cons, if_neg (by simp)]
      refine List.filter_eq_self.mpr fun y hy => ?_
      have : y ≠ x := fun z => nd.1 (z ▸ hy)
      simpa using this
    refine ⟨r.map (fun q => x :: q) ++ l.flatMap fun z => (arranged l.length ((x :: l).filter fun y => y != z)).map fun q => z :: q, ?_⟩
    show ((x :: l).flatMap fun z => (arranged l.length ((x :: l).filter fun y => y != z)).map fun q => z :: q) = _
    rw [List.flatMap_cons, e, hr]
    rfl
/-! ### the first with the least -/
section
variable {α : Type} (kf : α → Nat)
def stepMin (b : α × Nat) (r : α) : α × Nat := if kf r < b.2 then (r, kf r) else b
theorem foldMin_stay : ∀ (l : List α) (b : α), (∀ x ∈ l, kf b ≤ kf x) → l.foldl (stepMin kf) (b, kf b) = (b, kf b)
  | [], _, _ => rfl
  | x :: l, b, h => by
    rw [List.foldl_cons]
    have : stepMin kf (b, kf b) x = (b, kf b) := by
      unfold stepMin
      rw [if_neg (by have := h x (List.mem_cons_self ..); show ¬ kf x < kf b; omega)]
    rw [this]
    exact foldMin_stay l b fun y hy => h y (List.mem_cons_of_mem _ hy)
theorem foldMin_to (x : α) (l2 : List α) (h2 : ∀ y ∈ l2, kf x ≤ kf y) : ∀ (l1 : List α) (b : α), (∀ y ∈ l1, kf x < kf y) → kf x < kf b → (l1 ++ x :: l2).foldl (stepMin kf) (b, kf b) = (x, kf x)
  | [], b, _, hb => by
    rw [List.nil_append, List.foldl_cons]
    have : stepMin kf (b, kf b) x = (x, kf x) := by
      unfold stepMin
      rw [if_pos (show kf x < kf b from hb)]
    rw [this]
    exact foldMin_stay kf l2 x h2
  | y :: l1, b, h1, hb => by
    rw [List.cons_append, List.foldl_cons]
    have hy := h1 y (List.mem_cons_self ..)
    unfold stepMin
    split
    · exact foldMin_to x l2 h2 l1 y (fun z hz => h1 z (List.mem_cons_of_mem _ hz)) hy
    · exact foldMin_to x l2 h2 l1 b (fun z hz => h1 z (List.mem_cons_of_mem _ hz)) hb
theorem foldMin_first {l : List α} {i : Nat} {m x : α} {r : List α} (hl : l = m :: r) (hx : l[i]? = some x) (hb : ∀ (j : Nat) (y : α), l[j]? = some y → kf x ≤ kf y ∧ (j < i → kf x < kf y)) : l.foldl (stepMin kf) (m, kf m) = (x, kf x) := by
  cases i with
  | zero =>
    rw [hl] at hx
    cases hx
    refine foldMin_stay kf l m fun y hy => ?_
    obtain ⟨j, hj⟩ := List.mem_iff_getElem?.mp hy; exact (hb j y hj).1
  | succ i =>
    obtain ⟨hi, e⟩ := List.getElem?_eq_some_iff.mp hx
    have hd : l = l.take (i + 1) ++ x :: l.drop (i + 2) := by
      rw [← e, List.getElem_cons_drop, List.take_append_drop]
    rw [hd]
    refine foldMin_to kf x _ (fun y hy => ?_) _ m (fun y hy => ?_) ?_
    · obtain ⟨j, hj⟩ := List.mem_iff_getElem?.mp hy
      rw [List.getElem?_drop] at hj
      exact (hb _ y hj).1
    · obtain ⟨j, hj⟩ := List.mem_iff_getElem?.mp hy
      rw [List.getElem?_take] at hj
      split at hj
      · exact (hb j y hj).2 (by omega)
      · cases hj
    · exact (hb 0 m (by rw [hl]; rfl)).2 (by omega)
end
/-! ### variables that matter -/
theorem setVar_twice (m v : Nat) (x y : Bool) : setVar (setVar m v x) v y = setVar m v y := by
  apply Nat.eq_of_testBit_eq
  intro i
  simp only [setVar_bits]
  split <;> rfl
theorem setVar_lt' {m v : Nat} {z : Bool} (hm : m < 1024) (hv : v < 10) : setVar m v z < 1024 := setVar_lt hm hv
/-- whether a case is told otherwise when the variable is yes -/
def doesM (g : Nat → Bool) (v : Nat) : Bool := (List.range 1024).any fun m => g m != g (setVar m v true)
theorem doesM_iff (g : Nat → Bool) {v : Nat} (hv : v < 10) : doesM g v = (List.range CASES).any fun m => g (setVar m v false) != g (setVar m v true) := by
  rw [Bool.eq_iff_iff]
  unfold doesM
  constructor
  · intro h
    obtain ⟨m, hm, q⟩ := List.any_eq_true.mp h
    refine List.any_eq_true.mpr ⟨m, hm, ?_⟩
    have hb : m.testBit v = false := by
      cases e : m.testBit v
      · rfl
      · exfalso
        have : setVar m v true = m := by unfold setVar; rw [if_pos e]
        rw [this] at q
        simp at q
    rw [setVar_no hb]
    exact q
  · intro h
    obtain ⟨m, hm, q⟩ := List.any_eq_true.mp h
    refine List.any_eq_true.mpr ⟨setVar m v false, ?_, ?_⟩
    · exact List.mem_range.mpr (setVar_lt (List.mem_range.mp hm) hv)
    · rw [setVar_twice]
      exact q
def mattersG (g : Nat → Bool) : List Nat := (List.range 10).filter (doesM g)
theorem mattersG_eq (f : Nat) : mattersG (value f) = matters f := by
  unfold mattersG matters
  refine List.filter_congr fun v hv => ?_
  exact doesM_iff (value f) (List.mem_range.mp hv)
theorem matters_nodup (f : Nat) : (matters f).Nodup := List.nodup_range.filter _
theorem matters_lt {f v : Nat} (h : v ∈ matters f) : v < 10 := List.mem_range.mp (List.mem_filter.mp h).1
theorem not_matters {f v : Nat} (hv : v < 10) (h : v ∉ matters f) : ∀ m, m < 1024 → value f (setVar m v false) = value f (setVar m v true) := fun m hm => by
  cases e : (value f (setVar m v false) != value f (setVar m v true))
  · simpa using e
  · exfalso
    refine h (List.mem_filter.mpr ⟨List.mem_range.mpr hv, List.any_eq_true.mpr ⟨m, List.mem_range.mpr hm, e⟩⟩)
/-- the nodes of a function by some variables alone -/
def cntS (f : Nat) (r : List Nat) : Nat := (meet (VARS + 1) [] ((casesOf r).map (value f))).length
theorem full_order {r : List Nat} (nd : r.Nodup) (hlt : ∀ v ∈ r, v < 10) : isOrder (full r) = true := by
  rw [isOrder_iff]
  unfold full
  have h1 : (List.range 10).Perm ((List.range 10).filter (fun v => r.contains v) ++ (List.range 10).filter fun v => !r.contains v) := (List.filter_append_perm _ _).symm
  refine h1.trans (List.Perm.append_right _ ?_)
  refine (List.perm_ext_iff_of_nodup (List.nodup_range.filter _) nd).mpr fun v => ?_
  simp only [List.mem_filter, List.mem_range, List.contains_iff_mem]
  exact ⟨fun z => z.2, fun z => ⟨hlt v z, z⟩⟩
theorem cnt_full {f : Nat} {r : List Nat} (h : r ∈ arranged (matters f).length (matters f)) : (nodesOf (full r) f).length = cntS f r := by
  obtain ⟨nd, sub, len⟩ := arranged_mem _ _ (matters_nodup f) r h
  have hlt : ∀ v ∈ r, v < 10 := fun v hv => matters_lt (sub v hv)
  have ho := full_order nd hlt
  have perm : ∀ v ∈ matters f, v ∈ r := by
    have p := nodup_perm r (matters f) nd (fun v hv => sub v hv) (by omega)
    exact fun v hv => p.mem_iff.mpr hv
  have hl10 : r.length ≤ 10 := by
    have := isOrder_len ho
    unfold full at this
    rw [List.length_append] at this
    omega
  unfold nodesOf
  rw [← casesOf_row ho]
  have nd2 := isOrder_nodup ho
  unfold full at nd2 ⊢
  have hs : r.length + ((List.range VARS).filter fun v => !r.contains v).length = 10 := by
    have := isOrder_len ho
    unfold full at this
    rw [List.length_append] at this
    exact this
  rw [casesOf_stretch nd2 (fun v hv => isOrder_lt ho hv) (fun v hv => not_matters (by
      have := (List.mem_filter.mp hv).1
      exact List.mem_range.mp this) (fun z => by
      have := (List.mem_filter.mp hv).2
      have m := perm v z
      simp [m] at this))]
  have e := meet_stretch ((List.range VARS).filter fun v => !r.contains v).length (VARS + 1) r.length [] ((casesOf r).map (value f)) (by rw [List.length_map, casesOf_len]) (by omega)
  rw [List.map_nil] at e
  rw [e, List.length_map]
  rfl
/-- the best order, as the first with the least -/
theorem best_first {f i : Nat} {x : List Nat} (hx : (arranged (matters f).length (matters f))[i]? = some x)
    (hb : ∀ (j : Nat) (y : List Nat), (arranged (matters f).length (matters f))[j]? = some y → cntS f x ≤ cntS f y ∧ (j < i → cntS f x < cntS f y)) : best f = (x, cntS f x) := by
  obtain ⟨r, hr⟩ := arranged_head (matters f) (matters_nodup f)
  have e := foldMin_first (fun r => (nodesOf (full r) f).length) hr hx (fun j y hy => by
    have h := hb j y hy
    show (nodesOf (full x) f).length ≤ (nodesOf (full y) f).length ∧ (j < i → (nodesOf (full x) f).length < (nodesOf (full y) f).length)
    rw [cnt_full (List.mem_of_getElem? hx), cnt_full (List.mem_of_getElem? hy)]
    exact h)
  show (arranged (matters f).length (matters f)).foldl (stepMin fun r => (nodesOf (full r) f).length) (matters f, (nodesOf (full (matters f)) f).length) = _
  rw [e]
  show (x, (nodesOf (full x) f).length) = _
  rw [cnt_full (List.mem_of_getElem? hx)]
end TQ
end
section
set_option Elab.async false
set_option maxRecDepth 4000
namespace TQ
open Diag
/-! ### what each call makes and answers -/
def fnOf (s : State) : Nat → List Nat → Nat
  | 0, _ :: z :: _ => constant (z == 1)
  | 1, _ :: v :: _ => variable_ v
  | 2, _ :: a :: _ => negated (reg s a)
  | 3, _ :: op :: a :: b :: _ => joined op (reg s a) (reg s b)
  | 4, _ :: a :: b :: c :: _ => chosen (reg s a) (reg s b) (reg s c)
  | 5, _ :: a :: v :: z :: _ => fixed (reg s a) v (z == 1)
  | 6, _ :: a :: v :: _ => Diag.some_ (reg s a) v
  | 7, _ :: a :: v :: _ => Diag.all_ (reg s a) v
  | 8, _ :: a :: v :: b :: _ => Diag.put (reg s a) v (reg s b)
  | _, _ => 0
def node3 (x : Node) : List Nat := [x.var, x.no, x.yes]
def ansOf (s : State) (o : List Nat) : Nat → List Nat → List Int
  | 9, a :: m :: _ => [b2i (value (reg s a) m)]
  | 10, a :: _ => [((cases (reg s a)).length : Int)]
  | 11, a :: m :: _ => match (cases (reg s a)).find? fun (k : Nat) => decide (m ≤ k) with
    | none => [-5]
    | some k => [(k : Int)]
  | 12, a :: _ => ((matters (reg s a)).length : Int) :: ((matters (reg s a)).length : Int) :: (matters (reg s a)).map Int.ofNat
  | 13, a :: _ => ((diagram o (reg s a)).length : Int) :: 1 :: (root o (reg s a) : Int) :: (((diagram o (reg s a)).flatMap node3).length : Int) :: ((diagram o (reg s a)).flatMap node3).map Int.ofNat
  | 14, a :: _ => if FEW < (matters (reg s a)).length then [-6] else ((best (reg s a)).2 : Int) :: ((best (reg s a)).1.length : Int) :: (best (reg s a)).1.map Int.ofNat
  | 15, a :: b :: _ => match (cases (reg s a)).find? fun (k : Nat) => !value (reg s b) k with
    | none => [1]
    | some k => [0, 1, (k : Int)]
  | _, _ => []
/-- how many numbers a call has -/
def cnum : Nat → Nat
  | 0 => 2 | 1 => 2 | 2 => 2 | 3 => 4 | 4 => 4 | 5 => 4 | 6 => 3 | 7 => 3 | 8 => 4 | 9 => 2 | 10 => 1 | 11 => 2 | 12 => 1 | 13 => 2 | 14 => 1 | _ => 2
/-- a call's numbers X; call 13's are followed by its list o -/
def ShapeOk (i : Nat) (X o : List Nat) : Prop := if i = 13 then ∃ a m, X = a :: m :: o else X.length = cnum i
def callL (i : Nat) (X o : List Nat) : List (List Int) := if i = 13 then [[13, ((X.headD 0 : Nat) : Int)], o.map Int.ofNat] else PyWrdiag.whole [(i : Int) :: X.map Int.ofNat]
/-- refused -/
def refN (o : List Nat) : Nat → List Nat → Bool
  | 0, r :: z :: _ => decide (15 < r) || decide (1 < z)
  | 1, r :: v :: _ => decide (15 < r) || decide (9 < v)
  | 2, r :: a :: _ => decide (15 < r) || decide (15 < a)
  | 3, r :: op :: a :: b :: _ => decide (15 < r) || (decide (15 < op) || (decide (15 < a) || decide (15 < b)))
  | 4, r :: a :: b :: c :: _ => decide (15 < r) || (decide (15 < a) || (decide (15 < b) || decide (15 < c)))
  | 5, r :: a :: v :: z :: _ => decide (15 < r) || (decide (15 < a) || (decide (9 < v) || decide (1 < z)))
  | 6, r :: a :: v :: _ => decide (15 < r) || (decide (15 < a) || decide (9 < v))
  | 7, r :: a :: v :: _ => decide (15 < r) || (decide (15 < a) || decide (9 < v))
  | 8, r :: a :: v :: b :: _ => decide (15 < r) || (decide (15 < a) || (decide (9 < v) || decide (15 < b)))
  | 9, a :: m :: _ => decide (15 < a) || decide (1023 < m)
  | 10, a :: _ => decide (15 < a)
  | 11, a :: _ => decide (15 < a)
  | 12, a :: _ => decide (15 < a)
  | 13, a :: _ => !isOrder o || decide (15 < a)
  | 14, a :: _ => decide (15 < a)
  | 15, a :: b :: _ => decide (15 < a) || decide (15 < b)
  | _, _ => false
theorem isReg_no (r : Nat) : (isReg r = false) ↔ 15 < r := by unfold isReg REGS; simp; omega
theorem isVar_no (v : Nat) : (isVar v = false) ↔ 9 < v := by unfold isVar VARS; simp; omega
theorem shown_one (z : Int) : DiagNeutral.shown (says z) = [z] := by simp [DiagNeutral.shown, says]
theorem flat_of (l : List Nat) : (l.map fun (n : Nat) => (n : Int)) = l.map Int.ofNat := rfl
theorem eq_of_len2 {X : List Nat} (h : X.length = 2) : ∃ a b, X = [a, b] := by
  match X, h with
  | [a, b], _ => exact ⟨a, b, rfl⟩
theorem eq_of_len1 {X : List Nat} (h : X.length = 1) : ∃ a, X = [a] := by
  match X, h with
  | [a], _ => exact ⟨a, rfl⟩
theorem eq_of_len3 {X : List Nat} (h : X.length = 3) : ∃ a b c, X = [a, b, c] := by
  match X, h with
  | [a, b, c], _ => exact ⟨a, b, c, rfl⟩
theorem eq_of_len4 {X : List Nat} (h : X.length = 4) : ∃ a b c d, X = [a, b, c, d] := by
  match X, h with
  | [a, b, c, d], _ => exact ⟨a, b, c, d, rfl⟩
/-- a step, by the call's number and numbers -/
def stepN (s : State) (o : List Nat) (i : Nat) (X : List Nat) : State × List Int :=
  if refN o i X = true then (s, [-1]) else if i < 9 then (s.set (X.headD 0) (fnOf s i X), [((cases (fnOf s i X)).length : Int)]) else (s, ansOf s o i X)
theorem sh_sets (s : State) (r : Nat) (f : Nat) : sh (sets s r f) = (s.set r f, [((cases f).length : Int)]) := by
  unfold sh sets
  rw [shown_one]
theorem sh_says (s : State) (z : Int) : sh (s, says z) = (s, [z]) := by
  unfold sh
  rw [shown_one]
theorem sh_if {c : Prop} [Decidable c] (x y : State × Answer) : sh (if c then x else y) = if c then sh x else sh y := by split <;> rfl
theorem if_iff {c d : Prop} [Decidable c] [Decidable d] {α : Type} (x y : α) (h : c ↔ d) : (if c then x else y) = if d then x else y := by
  by_cases e : c
  · rw [if_pos e, if_pos (h.mp e)]
  · rw [if_neg e, if_neg fun z => e (h.mpr z)]
theorem stepN_eq (s : State) (i : Nat) (hi : i < 16) (X o : List Nat) (hX : ShapeOk i X o) : DiagNeutral.step s (callL i X o) = stepN s o i X := by
  have c : i = 0 ∨ i = 1 ∨ i = 2 ∨ i = 3 ∨ i = 4 ∨ i = 5 ∨ i = 6 ∨ i = 7 ∨ i = 8 ∨ i = 9 ∨ i = 10 ∨ i = 11 ∨ i = 12 ∨ i = 13 ∨ i = 14 ∨ i = 15 := by omega
  rcases c with e | e | e | e | e | e | e | e | e | e | e | e | e | e | e | e <;> subst e
  · obtain ⟨r, z, rfl⟩ := eq_of_len2 hX
    refine (st_const s r z).trans ?_
    unfold Diag.step stepN
    rw [sh_if, sh_says, sh_sets]
    refine (if_iff _ _ ?_).trans rfl
    rw [isReg_no]
    simp [refN]
  · obtain ⟨r, v, rfl⟩ := eq_of_len2 hX
    refine (st_var s r v).trans ?_
    unfold Diag.step stepN
    rw [sh_if, sh_says, sh_sets]
    refine (if_iff _ _ ?_).trans rfl
    rw [isReg_no, isVar_no]
    simp [refN]
  · obtain ⟨r, a, rfl⟩ := eq_of_len2 hX
    refine (st_not s r a).trans ?_
    unfold Diag.step stepN
    rw [sh_if, sh_says, sh_sets]
    refine (if_iff _ _ ?_).trans rfl
    rw [isReg_no, isReg_no]
    simp [refN]
  · obtain ⟨r, op, a, b, rfl⟩ := eq_of_len4 hX
    refine (st_two s r a b op).trans ?_
    unfold Diag.step stepN
    rw [sh_if, sh_says, sh_sets]
    refine (if_iff _ _ ?_).trans rfl
    rw [isReg_no, isReg_no, isReg_no]
    simp [refN]
    omega
  · obtain ⟨r, a, b, c, rfl⟩ := eq_of_len4 hX
    refine (st_choose s r a b c).trans ?_
    unfold Diag.step stepN
    rw [sh_if, sh_says, sh_sets]
    refine (if_iff _ _ ?_).trans rfl
    rw [isReg_no, isReg_no, isReg_no, isReg_no]
    simp [refN]
  · obtain ⟨r, a, v, z, rfl⟩ := eq_of_len4 hX
    refine (st_fix s r z v a).trans ?_
    unfold Diag.step stepN
    rw [sh_if, sh_says, sh_sets]
    refine (if_iff _ _ ?_).trans rfl
    rw [isReg_no, isReg_no, isVar_no]
    simp [refN]
  · obtain ⟨r, a, v, rfl⟩ := eq_of_len3 hX
    refine (st_some s r v a).trans ?_
    unfold Diag.step stepN
    rw [sh_if, sh_says, sh_sets]
    refine (if_iff _ _ ?_).trans rfl
    rw [isReg_no, isReg_no, isVar_no]
    simp [refN]
  · obtain ⟨r, a, v, rfl⟩ := eq_of_len3 hX
    refine (st_all s r v a).trans ?_
    unfold Diag.step stepN
    rw [sh_if, sh_says, sh_sets]
    refine (if_iff _ _ ?_).trans rfl
    rw [isReg_no, isReg_no, isVar_no]
    simp [refN]
  · obtain ⟨r, a, v, b, rfl⟩ := eq_of_len4 hX
    refine (st_put s r v a b).trans ?_
    unfold Diag.step stepN
    rw [sh_if, sh_says, sh_sets]
    refine (if_iff _ _ ?_).trans rfl
    rw [isReg_no, isReg_no, isVar_no, isReg_no]
    simp [refN]
  · obtain ⟨a, m, rfl⟩ := eq_of_len2 hX
    refine (st_value s a m).trans ?_
    show (s, DiagNeutral.shown (if isReg a = false ∨ CASES ≤ m then says (-1) else says (if value (reg s a) m = true then 1 else 0))) = stepN s o 9 [a, m]
    unfold stepN
    refine Eq.trans ?_ (if_iff _ _ (show (isReg a = false ∨ CASES ≤ m) ↔ refN o 9 [a, m] = true by rw [isReg_no]; simp [refN, CASES]; omega))
    split
    · rw [shown_one]
    · rw [shown_one]
      rfl
  · obtain ⟨a, rfl⟩ := eq_of_len1 hX
    refine (st_count s a).trans ?_
    show (s, DiagNeutral.shown (if isReg a = false then says (-1) else says ((cases (reg s a)).length : Nat))) = stepN s o 10 [a]
    unfold stepN
    refine Eq.trans ?_ (if_iff _ _ (show (isReg a = false) ↔ refN o 10 [a] = true by rw [isReg_no]; simp [refN]))
    split
    · rw [shown_one]
    · rw [shown_one]
      rfl
  · obtain ⟨a, m, rfl⟩ := eq_of_len2 hX
    refine (st_first s a m).trans ?_
    show (s, DiagNeutral.shown (if isReg a = false then says (-1) else match (cases (reg s a)).find? fun (k : Nat) => decide (m ≤ k) with | none => says (-5) | some k => says (k : Nat))) = stepN s o 11 [a, m]
    unfold stepN
    refine Eq.trans ?_ (if_iff _ _ (show (isReg a = false) ↔ refN o 11 [a, m] = true by rw [isReg_no]; simp [refN]))
    split
    · rw [shown_one]
    · show (s, DiagNeutral.shown (match (cases (reg s a)).find? fun (k : Nat) => decide (m ≤ k) with | none => says (-5) | some k => says (k : Nat))) = (s, (match (cases (reg s a)).find? fun (k : Nat) => decide (m ≤ k) with | none => [-5] | some k => [(k : Int)]))
      generalize (cases (reg s a)).find? (fun (k : Nat) => decide (m ≤ k)) = e
      cases e <;> rw [shown_one]
  · obtain ⟨a, rfl⟩ := eq_of_len1 hX
    refine (st_matters s a).trans ?_
    show (s, DiagNeutral.shown (if isReg a = false then says (-1) else lists (matters (reg s a)))) = stepN s o 12 [a]
    unfold stepN
    refine Eq.trans ?_ (if_iff _ _ (show (isReg a = false) ↔ refN o 12 [a] = true by rw [isReg_no]; simp [refN]))
    split
    · rw [shown_one]
    · simp [DiagNeutral.shown, lists, ansOf]
  · obtain ⟨a, m, rfl⟩ := hX
    refine (st_diagram s a o).trans ?_
    show (s, DiagNeutral.shown (if isReg a = false ∨ isOrder o = false then says (-1) else ⟨((diagram o (reg s a)).length : Nat), [[root o (reg s a)], (diagram o (reg s a)).flatMap fun (x : Node) => [x.var, x.no, x.yes]]⟩)) = stepN s o 13 (a :: m :: o)
    unfold stepN
    refine Eq.trans ?_ (if_iff _ _ (show (isReg a = false ∨ isOrder o = false) ↔ refN o 13 (a :: m :: o) = true by rw [isReg_no]; simp [refN]; exact Or.comm))
    split
    · rw [shown_one]
    · simp [DiagNeutral.shown, ansOf, node3]
      rfl
  · obtain ⟨a, rfl⟩ := eq_of_len1 hX
    refine (st_best s a).trans ?_
    show (s, DiagNeutral.shown (if isReg a = false then says (-1) else if FEW < (matters (reg s a)).length then says (-6) else ⟨((best (reg s a)).2 : Nat), [(best (reg s a)).1]⟩)) = stepN s o 14 [a]
    unfold stepN
    refine Eq.trans ?_ (if_iff _ _ (show (isReg a = false) ↔ refN o 14 [a] = true by rw [isReg_no]; simp [refN]))
    split
    · rw [shown_one]
    · show (s, DiagNeutral.shown (if FEW < (matters (reg s a)).length then says (-6) else ⟨((best (reg s a)).2 : Nat), [(best (reg s a)).1]⟩)) = (s, if FEW < (matters (reg s a)).length then [-6] else ((best (reg s a)).2 : Int) :: ((best (reg s a)).1.length : Int) :: (best (reg s a)).1.map Int.ofNat)
      by_cases c : FEW < (matters (reg s a)).length
      · rw [if_pos c, if_pos c, shown_one]
      · rw [if_neg c, if_neg c]
        simp [DiagNeutral.shown]
  · obtain ⟨a, b, rfl⟩ := eq_of_len2 hX
    refine (st_within s a b).trans ?_
    show (s, DiagNeutral.shown (if isReg a = false ∨ isReg b = false then says (-1) else match (cases (reg s a)).find? fun (k : Nat) => !value (reg s b) k with | none => says 1 | some k => ⟨0, [[k]]⟩)) = stepN s o 15 [a, b]
    unfold stepN
    refine Eq.trans ?_ (if_iff _ _ (show (isReg a = false ∨ isReg b = false) ↔ refN o 15 [a, b] = true by rw [isReg_no, isReg_no]; simp [refN]))
    split
    · rw [shown_one]
    · show (s, DiagNeutral.shown (match (cases (reg s a)).find? fun (k : Nat) => !value (reg s b) k with | none => says 1 | some k => ⟨0, [[k]]⟩)) = (s, (match (cases (reg s a)).find? fun (k : Nat) => !value (reg s b) k with | none => [1] | some k => [0, 1, (k : Int)]))
      generalize (cases (reg s a)).find? (fun (k : Nat) => !value (reg s b) k) = e
      cases e
      · rw [shown_one]
      · simp [DiagNeutral.shown]
end TQ
end
section
set_option Elab.async false
set_option linter.all false
set_option maxRecDepth 100000
set_option maxHeartbeats 4100000
/-! short words of this proof: a def of the text called by its name; a new list; a comprehension that changes nothing -/
namespace TQ
open L2 PyProof.Rows PySem PySem.Spec
/-- the def of the name x keeps the promise sp at level k -/
structure DefOk (P : Program) (w : World) (K : PySem.W.Frag) (mg : Str → Option Value) (base : Heap) (k : Nat) (x : Str) (sp : Sp) : Prop where
  ex : ∃ (f : Addr) (fd : FuncData) (ps : List Str), FnOk P w K mg base CX0 k f fd ps sp ∧ mg x = some (.ref f) ∧ PySem.W.keepIn K (.ref f) = true ∧ Binds K fd ps []
/-- where the def of the name x stands -/
structure IsDef (K : PySem.W.Frag) (mg : Str → Option Value) (x : Str) (st : Stmt) (ps : List Str) : Prop where
  ex : ∃ (f : Addr) (fd : FuncData), Fun K x x st f fd ∧ mg x = some (.ref f) ∧ Binds K fd ps []
section
variable {base : Heap} {mg : Str → Option Value} {K : PySem.W.Frag} {P : Program} {w : World}
theorem IsDef.ok {x : Str} {st : Stmt} {N ps : List Str} {k : Nat} {sp : Sp} (D : IsDef K mg x st ps) (S : FnScope N ps (defScope st)) (len : ∀ vs H Q E, sp vs H Q E → vs.length = ps.length)
    (hbody : ∀ (f : Addr) (cdv : Value) (A : Around) (outer : List Env) (s : Shared) (H : Hp) (vs : List V) (Q : VK) (E : XK), Room k (A.deeper (envOfC x (defScope st) s.heap.objs.size f cdv)) → sp vs H Q E →
      ∃ t, PSs (cxOf CX0 P w K mg base N x (defScope st) f cdv A outer s H E).nox (defBody st) t ∧ t { nx := fun _ H' => Q .non H', rt := Q } (start N vs) H) : DefOk P w K mg base (k + 1) x sp := by
  obtain ⟨f, fd, F, g, b⟩ := D.ex
  exact ⟨f, fd, ps, F.ok S len (hbody f), g, F.kp, b⟩
end
def tCl (sp : Sp) (t : TA) : TE := fun σ H Q => t σ H fun vs H1 => sp vs H1 Q E0
section
variable {X : Cx} {k : Nat} {sp : Sp} {x : Str} {p pos : Pos} {e : Expr} {es : List Expr} {t : TA}
theorem pe_cl (D : DefOk X.prog X.w X.K X.mg X.base k x sp) (hr : Room k X.A) (hg : Gl X x) (ha : PA X (e :: es) t) (hdb : (x == ("__debug__" : Str)) = false := by decide)
    (hst : starEach (e :: es) X.env = (false, eval e X.env) :: starEach es X.env := by rfl) (hpl : (backTo pos (starEach es X.env)).any (·.1) = false := by rfl) :
    PE X (.Call (.Name x p) (e :: es) [] pos) (tCl sp t) := by
  obtain ⟨f, fd, ps, F, g, kp, b⟩ := D.ex
  refine ⟨fun pn s σ H Q I h => ?_⟩
  refine (pe_call (dvs := []) (E := E0) F hr hg g kp b .nil pass0 ha hdb hst hpl).run pn s σ H Q I ?_
  have e0 : (fun (vs : List V) (H1 : Hp) => sp (vs ++ []) H1 Q E0) = fun vs H1 => sp vs H1 Q E0 := by
    funext vs H1
    rw [List.append_nil]
  show t σ H (fun vs H1 => sp (vs ++ []) H1 Q E0)
  rw [e0]
  exact h
end
/-- a def as the head finds it -/
theorem isDef {K : PySem.W.Frag} {mg : Str → Option Value} {h : Heap} {x : Str} {st : Stmt} {ps : List Str} {f : Addr} {oc kV doc pm cdv ct : Value} {od an : Option Addr} {osl : Array (Option Value)} (X : K.In h) (G : h.Ns mainGlobals mg)
    (b : ∀ (kV doc pm : Value) (an : Option Addr) (cdv ct : Value) (us : List Value), us.length = ps.length → bindArgs (PySem.W.fnOf x x (defArgs st) (defBody st) (defScope st) .none kV doc pm an cdv ct) ⟨us, []⟩ = pure (ps.zip us))
    (a : PySem.W.nsIn K mainGlobals x = some (some (.ref f))) (l : K.lookup f = some ⟨oc, od, .func (PySem.W.fnOf x x (defArgs st) (defBody st) (defScope st) .none kV doc pm an cdv ct), osl⟩)
    (c : PySem.W.codeIn K cdv x = true) (k : PySem.W.keepIn K (.ref f) = true) : IsDef K mg x st ps :=
  ⟨f, _, fun_mk l c k, PySem.W.mg_of X G a, (fun_mk l c k).binds b⟩
section
variable {X : Cx} {k : Nat} {sp : Sp} {x : Str} {p pos : Pos}
theorem pe_cl0 (D : DefOk X.prog X.w X.K X.mg X.base k x sp) (hr : Room k X.A) (hg : Gl X x) (hdb : (x == ("__debug__" : Str)) = false := by decide) : PE X (.Call (.Name x p) [] [] pos) (tCl sp tNil) := by
  obtain ⟨f, fd, ps, F, g, kp, b⟩ := D.ex
  exact pe_call0 F hr hg g kp b .nil pass0 hdb
end
/-! ### heaps -/
theorem same_upd {H : Hp} {p : Addr} {o : HO} (n : H p = none) : Same H (upd H p o) := fun b u e => by rw [upd_ne (ne_of_none e n)]; exact e
theorem Same.upd {H H1 : Hp} {p : Addr} {o : HO} (s : Same H H1) (n : H1 p = none) : Same H (upd H1 p o) := s.trans (same_upd n)
/-- a change at a place that the elder heap does not have -/
theorem Same.upd' {H H1 : Hp} {p : Addr} {o : HO} (s : Same H H1) (n : H p = none) : Same H (L2.upd H1 p o) := fun b u e => by rw [upd_ne (ne_of_none e n)]; exact s b u e
theorem Same.seqT {K : PySem.W.Frag} {H H' : Hp} {a : Addr} {xs : List V} (e : Same H H') (h : SqT K H a xs) : SqT K H' a xs := by
  rcases h with (t | ⟨o, t⟩) | t
  · exact .inl (.inl (e _ _ t))
  · exact .inl (.inr ⟨o, e _ _ t⟩)
  · exact .inr t
/-- a new list is handed back, all else stands -/
def newL (H : Hp) (xs : List V) (Q : VK) : Prop := ∀ H' p, Same H H' → H p = none → H' p = some (.lst xs) → Q (.ref p) H'
theorem newL.same {H H1 : Hp} {xs : List V} {Q : VK} (s : Same H H1) (h : newL H xs Q) : newL H1 xs Q := fun H' p s' n e => h H' p (s.trans s') (s.free n) e
/-! ### a comprehension whose turns change nothing: the list of its values -/
section
variable {n : Nat} {J : It} {Y : Nat → Hp → V → Hp → Prop} {G : Hp → Prop}
theorem range_map_succ (f : Nat → V) (i : Nat) : (List.range (i + 1)).map f = (List.range i).map f ++ [f i] := by
  rw [List.range_succ, List.map_append]
  rfl
theorem lc_pure (w : Walk J n G Y) {g : TG} {te : TE} {vs : List Nat} {σ : L2.St} {H1 : Hp} {D : Addr} {Qd : Hp → Prop} (f : Nat → V) (hn : n < sizeLine) (hD : H1 D = none) (hG : ∀ H, Same H1 H → G H)
    (hs : ∀ i x H H' (R : VK), i < n → Same H1 H → Y i H x H' → (∀ y H4, y = f i → Same H H4 → R y H4) → g x (wipe σ vs) H' fun σ2 H2 => wipe σ2 vs = wipe σ vs ∧ te σ2 H2 R)
    (hd : ∀ H, Same H1 H → H D = some (.lst ((List.range n).map f)) → Qd H) :
    ∃ W : Nat → Nat → Hp → Prop, (∃ m, W 0 m (upd H1 D (.lst []))) ∧ ∀ i m H, W i m H → (J.stop i H ∧ Qd H) ∨
      (J.go i H ∧ ∃ Nx : Hp → Prop, (∀ H', Nx H' → ∃ m', m' < m ∧ W (i + 1) m' H') ∧ ∀ x H', J.yld i H x H' → g x (wipe σ vs) H' fun σ2 H2 => wipe σ2 vs = wipe σ vs ∧ tYes σ2 H2 fun b H3 => if b = true then te σ2 H3 fun y H4 => ∃ acc, H4 D = some (.lst acc) ∧ acc.length < sizeLine ∧ Nx (upd H4 D (.lst (acc ++ [y]))) else Nx H3) := by
  refine lc_it w (fun i H => Same H1 H ∧ H D = some (.lst ((List.range i).map f))) ⟨same_upd hD, upd_same⟩ (fun i H _ p => hG H p.1) (fun i x H H' hi p y => ?_) (fun H p => hd H p.1 p.2)
  have q := hs i x H H' (fun y H4 => ∃ acc, H4 D = some (.lst acc) ∧ acc.length < sizeLine ∧ (Same H1 (upd H4 D (.lst (acc ++ [y]))) ∧ (upd H4 D (.lst (acc ++ [y]))) D = some (.lst ((List.range (i + 1)).map f)))) hi p.1 y (fun y H4 e s4 => by
    refine ⟨_, s4 _ _ p.2, by simp; omega, Same.upd' (p.1.trans s4) hD, ?_⟩
    rw [e, range_map_succ]
    exact upd_same)
  have e : (fun (σ2 : L2.St) (H2 : Hp) => wipe σ2 vs = wipe σ vs ∧ tYes σ2 H2 fun b H3 => if b = true then te σ2 H3 fun y H4 => ∃ acc, H4 D = some (.lst acc) ∧ acc.length < sizeLine ∧ (Same H1 (upd H4 D (.lst (acc ++ [y]))) ∧ (upd H4 D (.lst (acc ++ [y]))) D = some (.lst ((List.range (i + 1)).map f))) else (Same H1 H3 ∧ H3 D = some (.lst ((List.range (i + 1)).map f)))) =
      (fun (σ2 : L2.St) (H2 : Hp) => wipe σ2 vs = wipe σ vs ∧ te σ2 H2 fun y H4 => ∃ acc, H4 D = some (.lst acc) ∧ acc.length < sizeLine ∧ (Same H1 (upd H4 D (.lst (acc ++ [y]))) ∧ (upd H4 D (.lst (acc ++ [y]))) D = some (.lst ((List.range (i + 1)).map f)))) := by
    funext σ2 H2
    simp only [tYes, if_true]
  rw [e]
  exact q
end
end TQ
end
section
set_option Elab.async false
set_option linter.all false
set_option maxRecDepth 100000
set_option maxHeartbeats 4100000
/-! zip of three lists, walked to a target of several names, over the hand layer -/
namespace TQ
open L2 PyProof.Rows PySem PySem.Spec
/-- the lists at a, b and c as they stand at each turn, the items in new triples -/
def Itz3 (K : PySem.W.Frag) (a b c : Addr) : It :=
  ⟨fun i H => ∃ (xs ys zs : List V) (x y z : V), SqL K H a xs ∧ SqL K H b ys ∧ SqL K H c zs ∧ xs[i]? = some x ∧ ys[i]? = some y ∧ zs[i]? = some z,
    fun i H v H' => ∃ T x y z, v = .ref T ∧ H T = none ∧ H' = upd H T (.tup [x, y, z]) ∧ (∀ xs, SqL K H a xs → xs[i]? = some x) ∧ (∀ ys, SqL K H b ys → ys[i]? = some y) ∧ ∀ zs, SqL K H c zs → zs[i]? = some z,
    fun i H => ∃ xs ys zs : List V, SqL K H a xs ∧ SqL K H b ys ∧ SqL K H c zs ∧ i ≤ xs.length ∧ i ≤ ys.length ∧ i ≤ zs.length ∧ (i = xs.length ∨ i = ys.length ∨ i = zs.length)⟩
/-- the cells of a zip of three lists lie apart -/
structure Apart3 (z TI TO i1 i2 i3 a b c : Addr) : Prop where
  s : ZipSep3 z TI TO i1 i2 i3 [i1, a] [i2, b] [i3, c]
  a1 : a ≠ i1
  b2 : b ≠ i2
  c3 : c ≠ i3
theorem turn_zip3 {P : Program} {w : World} {K : PySem.W.Frag} {elts : List Expr} {kk : Nat} {tpos : Pos} {a b c z TI TO i1 i2 i3 : Addr} (D : Apart3 z TI TO i1 i2 i3 a b c) :
    Turn P w K (.Tuple elts kk tpos) (Itz3 K a b c) [z, TI, TO, i1, i2, i3] z (fun i h => IsZip h z TI TO .none ∧ IsTupOf3 h TI (.ref i1) (.ref i2) (.ref i3) ∧ (∃ x y u, IsTupOf3 h TO x y u) ∧ h.IsListIter i1 a i ∧ h.IsListIter i2 b i ∧ h.IsListIter i3 c i) where
  mem := by simp
  obj := fun i h st q hq => by
    obtain ⟨gz, gTI, ⟨x, y, u, gTO⟩, ⟨o1, f1, _, k1⟩, ⟨o2, f2, _, k2⟩, ⟨o3, f3, _, k3⟩⟩ := st
    have e' : q = z ∨ q = TI ∨ q = TO ∨ q = i1 ∨ q = i2 ∨ q = i3 := by simpa using hq
    rcases e' with q | q | q | q | q | q
    · rw [q]; exact ⟨_, gz, fun v q => nomatch q⟩
    · rw [q]; exact ⟨_, gTI, fun v q => nomatch q⟩
    · rw [q]; exact ⟨_, gTO, fun v q => nomatch q⟩
    · rw [q]; exact ⟨o1, f1, fun v q => by rw [k1] at q; cases q⟩
    · rw [q]; exact ⟨o2, f2, fun v q => by rw [k2] at q; cases q⟩
    · rw [q]; exact ⟨o3, f3, fun v q => by rw [k3] at q; cases q⟩
  keep := fun i h h' st k => by
    obtain ⟨gz, gTI, ⟨x, y, u, gTO⟩, h1, h2, h3⟩ := st
    exact ⟨k z (by simp) _ gz, k TI (by simp) _ gTI, ⟨x, y, u, k TO (by simp) _ gTO⟩, h1.at fun o q => k i1 (by simp) o q, h2.at fun o q => k i2 (by simp) o q, h3.at fun o q => k i3 (by simp) o q⟩
  item := by
    intro X hP hw hK hc i pn s σ H E I hf st hg
    subst hP hw hK
    obtain ⟨gz, gTI, ⟨x0, y0, u0, gTO⟩, h1, h2, h3⟩ := st
    obtain ⟨xs, ys, zs, x, y, v, ox, oy, oz, hx, hy, hv⟩ := hg
    obtain ⟨vl, vr, p, _⟩ := I.list ox
    obtain ⟨vl2, vr2, p2, _⟩ := I.list oy
    obtain ⟨vl3, vr3, p3, _⟩ := I.list oz
    obtain ⟨u, gu, ru⟩ := vr.get hx
    obtain ⟨u2, gu2, ru2⟩ := vr2.get hy
    obtain ⟨u3, gu3, ru3⟩ := vr3.get hv
    have hh : X.A.in1.handled = none := I.ok.hd hc
    have n1 : i < vl.toArray.size := by
      have := (List.getElem?_eq_some_iff.mp gu).1
      simpa using this
    have n2 : i < vl2.toArray.size := by
      have := (List.getElem?_eq_some_iff.mp gu2).1
      simpa using this
    have n3 : i < vl3.toArray.size := by
      have := (List.getElem?_eq_some_iff.mp gu3).1
      simpa using this
    have gzl : z < s.heap.objs.size := Heap.lt_size gz
    refine wpAny_pyNext_zipD3_item D.s (Draws.list hh i1 a D.a1 vl.toArray) (Draws.list hh i2 b D.b2 vl2.toArray) (Draws.list hh i3 c D.c3 vl3.toArray) gz gTI gTO ⟨h1, p.isList⟩ ⟨h2, p2.isList⟩ ⟨h3, p3.isList⟩ n1 n2 n3
      fun x1 x2 x3 h' tk q1 q2 q3 z' TO' g1 g2 g3 hT hsz hkp => ?_
    have f1 : x1 = u := by
      have q : some u = some x1 := by rw [← q1, ← gu]; simp
      exact (Option.some.inj q.symm)
    have f2 : x2 = u2 := by
      have q : some u2 = some x2 := by rw [← q2, ← gu2]; simp
      exact (Option.some.inj q.symm)
    have f3 : x3 = u3 := by
      have q : some u3 = some x3 := by rw [← q3, ← gu3]; simp
      exact (Option.some.inj q.symm)
    subst f1 f2 f3
    refine ⟨_, rfl, wpAny_letOwnedTupleGo_zip (s := { s with heap := h', toks := tk }) z' fun h'' z'' sb => ?_⟩
    have hT2 : h''.get? s.heap.objs.size = some { cls := .type "tuple", data := .seq #[x1, x2, x3] } := (sb.2 _ (Nat.ne_of_gt gzl)).trans hT
    have new : ObjOk X.prog X.w (upd H s.heap.objs.size (.tup [x, y, v])) h'' s.heap.objs.size (.tup [x, y, v]) :=
      ⟨by show 3 ≤ sizeLine; decide, [x1, x2, x3], .cons ru (.cons ru2 (.cons ru3 .nil)), ⟨_, hT2, rfl, _, rfl⟩⟩
    have I1 : Inv X pn σ (upd H s.heap.objs.size (.tup [x, y, v])) { s with heap := h'', toks := tk } :=
      I.turnedNew (t' := tk) (ch := [z, TI, TO, i1, i2, i3]) (fun q o hb e => (sb.2 q (fun q' => hb (by simp [q']))).trans (hkp q o (fun q' => hb (by simp [q'])) (fun q' => hb (by simp [q'])) (fun q' => hb (by simp [q'])) (fun q' => hb (by simp [q'])) (fun q' => hb (by simp [q'])) e)) hf (Nat.le_refl _) new
    refine ⟨.ref s.heap.objs.size, _, I1, rfl, ⟨_, x, y, v, rfl, I.hok.fresh (Nat.le_refl _), rfl, fun l hl => by rw [I.list_inj hl ox]; exact hx, fun l hl => by rw [I.list_inj hl oy]; exact hy, fun l hl => by rw [I.list_inj hl oz]; exact hv⟩, ⟨z'', ?_, ⟨x1, x2, x3, ?_⟩, ?_, ?_, ?_⟩, fun q hqm => ?_⟩
    · exact (sb.2 _ D.s.TIz).trans (hkp _ _ D.s.TIz D.s.TITO D.s.TIi1 D.s.TIi2 D.s.TIi3 gTI)
    · exact (sb.2 _ D.s.TOz).trans TO'
    · exact g1.1.at fun o q => (sb.2 _ D.s.zi1.symm).trans q
    · exact g2.1.at fun o q => (sb.2 _ D.s.zi2.symm).trans q
    · exact g3.1.at fun o q => (sb.2 _ D.s.zi3.symm).trans q
    · have glt : q < s.heap.objs.size := by
        have e' : q = z ∨ q = TI ∨ q = TO ∨ q = i1 ∨ q = i2 ∨ q = i3 := by simpa using hqm
        rcases e' with q | q | q | q | q | q
        · rw [q]; exact gzl
        · rw [q]; exact Heap.lt_size gTI
        · rw [q]; exact Heap.lt_size gTO
        · rw [q]; obtain ⟨_, f1, _⟩ := h1; exact Heap.lt_size f1
        · rw [q]; obtain ⟨_, f2, _⟩ := h2; exact Heap.lt_size f2
        · rw [q]; obtain ⟨_, f3, _⟩ := h3; exact Heap.lt_size f3
      rw [upd_ne (Nat.ne_of_lt glt)]
      exact (hf q hqm).1
  done := by
    intro X hP hw hK hc i pn s σ H E I hf st hg
    subst hP hw hK
    obtain ⟨gz, gTI, ⟨x0, y0, u0, gTO⟩, h1, h2, h3⟩ := st
    obtain ⟨xs, ys, zs, ox, oy, oz, m1, m2, m3, hend⟩ := hg
    obtain ⟨vl, vr, p, _⟩ := I.list ox
    obtain ⟨vl2, vr2, p2, _⟩ := I.list oy
    obtain ⟨vl3, vr3, p3, _⟩ := I.list oz
    have l1 := vr.length
    have l2 := vr2.length
    have l3 := vr3.length
    have hh : X.A.in1.handled = none := I.ok.hd hc
    refine wpAny_pyNext_zipD3_end D.s (Draws.list hh i1 a D.a1 vl.toArray) (Draws.list hh i2 b D.b2 vl2.toArray) (Draws.list hh i3 c D.c3 vl3.toArray) gz gTI gTO ⟨h1, p.isList⟩ ⟨h2, p2.isList⟩ ⟨h3, p3.isList⟩ (by simp; omega) (by simp; omega) (by simp; omega) (by simp; omega)
      fun h' tk hkp => ⟨rfl, I.turnedL (t' := tk) (ch := [z, TI, TO, i1, i2, i3]) (fun q o hb e =>
      hkp q o (fun q' => hb (by simp [q'])) (fun q' => hb (by simp [q'])) (fun q' => hb (by simp [q'])) (fun q' => hb (by simp [q'])) (fun q' => hb (by simp [q'])) e) hf⟩
  self := fun _ _ _ _ _ stat go => wpAny_pyIter_zip stat.1 go
def iZip3 (K : PySem.W.Frag) (ta : TA) : TI := fun σ H R => ta σ H fun vs H1 => ∃ a b c xs ys zs, vs = [.ref a, .ref b, .ref c] ∧ SqL K H1 a xs ∧ SqL K H1 b ys ∧ SqL K H1 c zs ∧ R (Itz3 K a b c) H1
theorem nm2 {x p q : Nat} (h1 : x ≠ p) (h2 : x ≠ q) : x ∉ [p, q] := by simp [h1, h2]
theorem nm2' {x p q : Nat} (h : x ≠ p ∧ x ≠ q) : x ∉ [p, q] := nm2 h.1 h.2
theorem ap3 (n a b c : Nat) (ha : a < n) (hb : b < n) (hc : c < n) : Apart3 (n + 5 : Nat) (n + 3 : Nat) (n + 4 : Nat) n (n + 1 : Nat) (n + 2 : Nat) a b c :=
  have k : ∀ x y : Nat, x ≠ y → x ≠ y := fun _ _ h => h
  ⟨⟨k (n+3) (n+5) (by omega), k (n+4) (n+5) (by omega), k (n+3) (n+4) (by omega), k (n+3) n (by omega), List.mem_cons_self .., nm2 (x := n+5) (by omega) (by omega), nm2 (x := n+4) (by omega) (by omega),
    k (n+3) (n+1) (by omega), List.mem_cons_self .., nm2 (x := n+5) (by omega) (by omega), nm2 (x := n+4) (by omega) (by omega),
    k (n+3) (n+2) (by omega), List.mem_cons_self .., nm2 (x := n+5) (by omega) (by omega), nm2 (x := n+4) (by omega) (by omega),
    nm2 (x := n) (p := n+1) (by omega) (by omega), nm2 (x := n) (p := n+2) (by omega) (by omega), nm2 (x := n+1) (p := n) (by omega) (by omega), nm2 (x := n+1) (p := n+2) (by omega) (by omega), nm2 (x := n+2) (p := n) (by omega) (by omega), nm2 (x := n+2) (p := n+1) (by omega) (by omega)⟩,
    k a n (by omega), k b (n+1) (by omega), k c (n+2) (by omega)⟩
theorem pi_zip3 {X : Cx} {e f2 f3 : Expr} {ta : TA} {p pos tpos : Pos} {elts : List Expr} {kk : Nat} (hg : Gl X "zip") (hm : X.mg "zip" = none) (ha : PA X [e, f2, f3] ta)
    (hs : starEach [e, f2, f3] X.env = (false, eval e X.env) :: starEach [f2, f3] X.env := by rfl) (hpl : (backTo pos (starEach [f2, f3] X.env)).any (·.1) = false := by rfl) :
    PI X (.Tuple elts kk tpos) (.Call (.Name "zip" p) [e, f2, f3] [] pos) (iZip3 X.K ta) := by
  refine ⟨fun pn s σ H R I h => ?_⟩
  refine Call_ (ld_blt I hg hm PyProof.Rows.boot_zip (PyProof.Rows.callWith_type1 (thn (ha.run pos pn s σ H _ I h) fun us s1 ⟨vs, H1, I1, r1, q1⟩ => ?_) hs hpl))
  obtain ⟨a, b, c, xs, ys, zs, ex, ox, oy, oz, q⟩ := q1
  subst ex
  cases r1 with
  | cons r rr =>
    cases rr with
    | cons r' rr =>
      cases rr with
      | cons r'' rr =>
        cases rr
        cases r
        cases r'
        cases r''
        obtain ⟨vl, vr, p1, _⟩ := I1.list ox
        obtain ⟨vl2, vr2, p2, _⟩ := I1.list oy
        obtain ⟨vl3, vr3, p3, _⟩ := I1.list oz
        have lta : a < s1.heap.objs.size := p1.lt
        have ltb : b < s1.heap.objs.size := p2.lt
        have ltc : c < s1.heap.objs.size := p3.lt
        refine zip_begins3 (begins_list a vl.toArray) (begins_list b vl2.toArray) (begins_list c vl3.toArray) p1.isList p2.isList p3.isList fun h' gz gTI gTO h1 h2 h3 hsz hkp => wpAny_pyIter_zip gz ?_
        have I2 : Inv X pn σ H1 { s1 with heap := h' } := I1.kept (t' := s1.toks) hkp
        refine ⟨s1.heap.objs.size + 5, [s1.heap.objs.size + 5, s1.heap.objs.size + 3, s1.heap.objs.size + 4, s1.heap.objs.size, s1.heap.objs.size + 1, s1.heap.objs.size + 2], _, _, H1, rfl, I2, turn_zip3 (ap3 s1.heap.objs.size a b c lta ltb ltc), ⟨gz, gTI, ⟨_, _, _, gTO⟩, ⟨_, h1, rfl, rfl⟩, ⟨_, h2, rfl, rfl⟩, ⟨_, h3, rfl, rfl⟩⟩, fun c hcm => ?_, q⟩
        have hge : s1.heap.objs.size ≤ c := by
          have e' : c = s1.heap.objs.size + 5 ∨ c = s1.heap.objs.size + 3 ∨ c = s1.heap.objs.size + 4 ∨ c = s1.heap.objs.size ∨ c = s1.heap.objs.size + 1 ∨ c = s1.heap.objs.size + 2 := by simpa using hcm
          rcases e' with z | z | z | z | z | z
          · rw [z]
            exact Nat.le_add_right _ _
          · rw [z]
            exact Nat.le_add_right _ _
          · rw [z]
            exact Nat.le_add_right _ _
          · rw [z]; exact Nat.le_refl _
          · rw [z]
            exact Nat.le_add_right _ _
          · rw [z]
            exact Nat.le_add_right _ _
        exact I1.fpOk hge (I1.hok.fresh hge)
/-- a new triple of the i-th of each -/
def YTrip (xs ys zs : Nat → Option V) : Nat → Hp → V → Hp → Prop := fun i H v H' => ∃ T x y z, v = .ref T ∧ H T = none ∧ H' = upd H T (.tup [x, y, z]) ∧ xs i = some x ∧ ys i = some y ∧ zs i = some z
theorem walk_zip3 {K : PySem.W.Frag} {a b c : Addr} {xs ys zs : List V} {n : Nat} (h1 : xs.length = n) (h2 : ys.length = n) (h3 : zs.length = n) :
    Walk (Itz3 K a b c) n (fun H => SqL K H a xs ∧ SqL K H b ys ∧ SqL K H c zs) (YTrip (fun i => xs[i]?) (fun i => ys[i]?) (fun i => zs[i]?)) := by
  refine ⟨fun i _ hi q => ?_, fun _ q => ⟨xs, ys, zs, q.1, q.2.1, q.2.2, by omega⟩, fun i H v H' _ q y => ?_⟩
  · have h1 : i < xs.length ∧ i < ys.length ∧ i < zs.length := by omega
    have ⟨h1, h2, h3⟩ := h1
    exact ⟨xs, ys, zs, xs[i], ys[i], zs[i], q.1, q.2.1, q.2.2, by simp [h1], by simp [h2], by simp [h3]⟩
  · obtain ⟨T, x, z, u, h1, h2, h3, h4, h5, h6⟩ := y
    exact ⟨T, x, z, u, h1, h2, h3, h4 xs q.1, h5 ys q.2.1, h6 zs q.2.2⟩
end TQ
end
section
set_option Elab.async false
set_option linter.all false
set_option maxRecDepth 100000
set_option maxHeartbeats 4100000
/-! dict(zip(t, l)), t a tuple of keys, l a list: the library has two lists alone -/
namespace TQ
open PySem
section
variable {prog : Program} {w : World} {A : Around} {E : Value → Shared → Prop} {s : Shared} {z TI TO i1 i2 T : Addr} {fp1 fp2 : List Addr} {n1 n2 i : Nat} {P1 P2 : Nat → Value → Prop} {St1 St2 : Nat → Heap → Prop} {f : Bool} {oT : Obj}
/-- one next of a zip whose last pair is still held: a new pair -/
theorem held_item {Q : Option Value → Shared → Prop} (S : ZipSep2 z TI TO i1 i2 fp1 fp2) (D1 : Draws prog w A.in1 i1 fp1 n1 P1 St1) (D2 : Draws prog w A.in1 i2 fp2 n2 P2 St2)
    (gz : IsZipHeld s.heap z TI TO T f) (gT : s.heap.get? T = some oT) (gTI : IsTupOf2 s.heap TI (.ref i1) (.ref i2)) (st1 : St1 i s.heap) (st2 : St2 i s.heap) (lt1 : i < n1) (lt2 : i < n2)
    (hQ : ∀ x1 x2 h' tk, P1 i x1 → P2 i x2 → IsZipHeld h' z TI TO T true → St1 (i + 1) h' → St2 (i + 1) h' → IsTupOf2 h' s.heap.objs.size x1 x2 →
      (∀ c o, c ≠ z → c ≠ i1 → c ≠ i2 → s.heap.get? c = some o → h'.get? c = some o) → Q (some (.ref s.heap.objs.size)) { s with heap := h', toks := tk }) :
      wpAny (model prog w) A (pyNext (Value.ref z)) Q E s := by
  have hy : s.TypeIs (.ref z) "zip" := ⟨_, gz, rfl⟩
  unfold pyNext
  refine wpAny_bind (wpAny_attempt (wpAny_callSpecial?_slot (name := Str.ofString "__next__") hy F.slot_zip_next (wpAny_call_entry F.slot_zip_next hy F.entry_zip_next (Q := fun v s' => wpAny (model prog w) A (pure (some v)) Q E s') ?_ (F.args_zip_next_1 _))))
  obtain ⟨hh0, g, d, tkA, osA⟩ := s
  show wpAny _ _ (field (.ref z) 2 >>= _) _ _ _; refine wpAny_bind (wpAny_field gz rfl (x := .bool false) rfl ?_)
  show wpAny _ _ (field (.ref z) 3 >>= _) _ _ _; refine wpAny_bind (wpAny_field gz rfl (x := .ref TI) rfl (wpAny_bind (wpAny_seqItems gTI rfl ?_)))
  show wpAny _ _ (Builtin.SmallTypes.ownedTupleIsFree (.ref z) >>= _) _ _ _; refine wpAny_bind (wpAny_tupleHeld_zip gz gT fun g0 gz0 sb0 => ?_)
  replace sb0 : Heap.SameBut z hh0 g0 := sb0
  simp only [Bool.false_eq_true, if_false]; refine wpAny_bind ?_
  rw [← Array.forIn_toList]
  simp only [List.forIn_cons, List.forIn_nil]; refine wpAny_bind (wpAny_bind (wpAny_holding ?_))
  show wpAny _ _ (Builtin.SmallTypes.nextOf (.ref i1) >>= _) _ _ ⟨g0, g, d, tkA, osA⟩
  refine wpAny_bind (D1.item i _ _ _ lt1 (D1.over st1 sb0 S.zf1) fun x1 p1 tk1 hx1 sn1 sb1 => wpAny_pure (wpAny_pure ?_))
  replace sb1 : Heap.SameBut i1 g0 p1 := sb1
  refine wpAny_bind (wpAny_bind (wpAny_holding ?_)); show wpAny _ _ (Builtin.SmallTypes.nextOf (.ref i2) >>= _) _ _ ⟨p1, g, d, tk1, osA⟩
  refine wpAny_bind (D2.item i _ _ _ lt2 (D2.over (D2.over st2 sb0 S.zf2) sb1 S.sep1_2) fun x2 p2 tk2 hx2 sn2 sb2 => wpAny_pure (wpAny_pure (wpAny_pure ?_)))
  replace sb2 : Heap.SameBut i2 p1 p2 := sb2
  show wpAny _ _ (newTuple [x1, x2] >>= _) _ _ _
  refine wpAny_bind (wpAny_newTuple ?_); have hsz : p2.objs.size = hh0.objs.size := by rw [sb2.1, sb1.1, sb0.1]
  have hkp : ∀ c o, c ≠ z → c ≠ i1 → c ≠ i2 → hh0.get? c = some o → p2.get? c = some o := fun c o c1 c2 c3 e => sb2.extBut _ _ c3 (sb1.extBut _ _ c2 (sb0.extBut _ _ c1 e))
  have hz2 : IsZipHeld p2 z TI TO T true := sb2.extBut _ _ S.zi2 (sb1.extBut _ _ S.zi1 gz0)
  have j1 : St1 (i + 1) p2 := D1.over sn1 sb2 S.sep2_1
  refine wpAny_pure ⟨_, rfl, wpAny_pure ?_⟩
  have hpt : IsTupOf2 (p2.push { cls := .type "tuple", data := .seq #[x1, x2] }) p2.objs.size x1 x2 := Heap.get?_push_size _ rfl
  show Q (some (.ref p2.objs.size)) _
  rw [hsz] at hpt ⊢
  exact hQ x1 x2 _ tk2 hx1 hx2 (Heap.get?_push_of_some _ hz2) (D1.frame _ _ _ j1 fun b _ o e => Heap.get?_push_of_some _ e) (D2.frame _ _ _ sn2 fun b _ o e => Heap.get?_push_of_some _ e) hpt fun c o c1 c2 c3 e => Heap.get?_push_of_some _ (hkp c o c1 c2 c3 e)
/-- .. at its end -/
theorem held_end {Q : Option Value → Shared → Prop} (S : ZipSep2 z TI TO i1 i2 fp1 fp2) (D1 : Draws prog w A.in1 i1 fp1 n1 P1 St1) (D2 : Draws prog w A.in1 i2 fp2 n2 P2 St2)
    (gz : IsZipHeld s.heap z TI TO T f) (gT : s.heap.get? T = some oT) (gTI : IsTupOf2 s.heap TI (.ref i1) (.ref i2)) (st1 : St1 i s.heap) (st2 : St2 i s.heap) (le1 : i ≤ n1) (le2 : i ≤ n2) (hend : i = n1 ∨ i = n2)
    (hQ : ∀ h' tk, (∀ c o, c ≠ z → c ≠ i1 → c ≠ i2 → s.heap.get? c = some o → h'.get? c = some o) → Q none { s with heap := h', toks := tk }) :
      wpAny (model prog w) A (pyNext (Value.ref z)) Q E s := by
  have hy : s.TypeIs (.ref z) "zip" := ⟨_, gz, rfl⟩
  unfold pyNext
  have stop : ∀ (h' : Heap) (tk : Nat) (e : Addr), (∃ o, h'.get? e = some o ∧ o.cls = .type "StopIteration") → (∀ c o, c ≠ z → c ≠ i1 → c ≠ i2 → s.heap.get? c = some o → h'.get? c = some o) →
      wpAny (model prog w) A ((do if (← isInstance (.ref e) (.type "StopIteration")) then pure none else throw (.ref e)) : Sem (Option Value)) Q E { s with heap := h', toks := tk } := fun h' tk e he hkp => by
    obtain ⟨o, ho, hc⟩ := he
    refine wpAny_bind (wpAny_isInstance (T := "StopIteration") (b := true) ⟨o, ho, hc⟩ isSubtype_stop ?_); exact wpAny_pure (hQ _ _ hkp)
  refine wpAny_bind (wpAny_attempt (wpAny_callSpecial?_slot (name := Str.ofString "__next__") hy F.slot_zip_next (wpAny_call_entry F.slot_zip_next hy F.entry_zip_next ?_ (F.args_zip_next_1 _))))
  obtain ⟨hh0, g, d, tkA, osA⟩ := s
  show wpAny _ _ (field (.ref z) 2 >>= _) _ _ _; refine wpAny_bind (wpAny_field gz rfl (x := .bool false) rfl ?_)
  show wpAny _ _ (field (.ref z) 3 >>= _) _ _ _; refine wpAny_bind (wpAny_field gz rfl (x := .ref TI) rfl (wpAny_bind (wpAny_seqItems gTI rfl ?_)))
  show wpAny _ _ (Builtin.SmallTypes.ownedTupleIsFree (.ref z) >>= _) _ _ _; refine wpAny_bind (wpAny_tupleHeld_zip gz gT fun g0 gz0 sb0 => ?_)
  replace sb0 : Heap.SameBut z hh0 g0 := sb0
  simp only [Bool.false_eq_true, if_false]; refine wpAny_bind ?_
  rw [← Array.forIn_toList]
  simp only [List.forIn_cons, List.forIn_nil]; refine wpAny_bind (wpAny_bind (wpAny_holding ?_))
  show wpAny _ _ (Builtin.SmallTypes.nextOf (.ref i1) >>= _) _ _ ⟨g0, g, d, tkA, osA⟩
  by_cases lt1 : i < n1
  · have e2 : i = n2 := by omega
    refine wpAny_bind (D1.item i _ _ _ lt1 (D1.over st1 sb0 S.zf1) fun x1 p1 tk1 hx1 sn1 sb1 => wpAny_pure (wpAny_pure ?_))
    replace sb1 : Heap.SameBut i1 g0 p1 := sb1
    refine wpAny_bind (wpAny_bind (wpAny_holding ?_)); show wpAny _ _ (Builtin.SmallTypes.nextOf (.ref i2) >>= _) _ _ ⟨p1, g, d, tk1, osA⟩
    refine wpAny_bind (D2.done ⟨p1, g, d, tk1, osA⟩ _ _ (by rw [← e2]; exact D2.over (D2.over st2 sb0 S.zf2) sb1 S.sep1_2) fun q e hq he => ?_)
    exact stop q tk1 e he fun c o c1 c2 c3 x => hq _ _ c3 (sb1.extBut _ _ c2 (sb0.extBut _ _ c1 x))
  · have e1 : i = n1 := by omega
    refine wpAny_bind (D1.done ⟨g0, g, d, tkA, osA⟩ _ _ (by rw [← e1]; exact D1.over st1 sb0 S.zf1) fun q e hq he => ?_)
    exact stop q tkA e he fun c o c1 c2 c3 x => hq _ _ c2 (sb0.extBut _ _ c1 x)
end
section
variable {w : World} {prog : Program}
/-- zip of two iterators of any kinds, as what dict() takes its pairs from -/
theorem pair_zip (z TI TO i1 i2 : Addr) {fp1 fp2 : List Addr} {n1 n2 : Nat} {P1 P2 : Nat → Value → Prop} {St1 St2 : Nat → Heap → Prop} (S : ZipSep2 z TI TO i1 i2 fp1 fp2) (hTI1 : TI ∉ fp1) (hTI2 : TI ∉ fp2)
    (D1 : ∀ A : Around, A.handled = none → Draws prog w A.in1 i1 fp1 n1 P1 St1) (D2 : ∀ A : Around, A.handled = none → Draws prog w A.in1 i2 fp2 n2 P2 St2)
    (L1 : ∀ i h, St1 i h → ∀ b ∈ fp1, ∃ o, h.get? b = some o) (L2 : ∀ i h, St2 i h → ∀ b ∈ fp2, ∃ o, h.get? b = some o) (F1 : ∀ i h h', St1 i h → (∀ b ∈ fp1, ∀ o, h.get? b = some o → h'.get? b = some o) → St1 i h') (F2 : ∀ i h h', St2 i h → (∀ b ∈ fp2, ∀ o, h.get? b = some o → h'.get? b = some o) → St2 i h') :
    PairArg prog w "zip" z (z :: TI :: TO :: (fp1 ++ fp2)) [z, TO, i1, i2] (min n1 n2) (fun i k v => P1 i k ∧ P2 i v)
      (fun h => IsZip h z TI TO .none ∧ IsTupOf2 h TI (.ref i1) (.ref i2) ∧ (∃ a b, IsTupOf2 h TO a b) ∧ St1 0 h ∧ St2 0 h) where
  type := fun _ good => ⟨_, good.1, rfl⟩
  notDict := by decide
  keep := fun h h' ok hkp => by
    obtain ⟨gz, gTI, ⟨a, b, gTO⟩, h1, h2⟩ := ok
    exact ⟨hkp _ _ gz, hkp _ _ gTI, ⟨a, b, hkp _ _ gTO⟩, F1 _ _ _ h1 fun b _ o e => hkp b o e, F2 _ _ _ h2 fun b _ o e => hkp b o e⟩
  there := fun h ok b hb => by
    obtain ⟨gz, gTI, ⟨a, c, gTO⟩, h1, h2⟩ := ok
    simp only [List.mem_cons, List.mem_append] at hb
    rcases hb with rfl | rfl | rfl | hb | hb
    · exact ⟨_, gz⟩
    · exact ⟨_, gTI⟩
    · exact ⟨_, gTO⟩
    · exact L1 _ _ h1 b hb
    · exact L2 _ _ h2 b hb
  sub := fun b hb => by
    simp only [List.mem_cons, List.not_mem_nil, or_false] at hb; simp only [List.mem_cons, List.mem_append]; rcases hb with rfl | rfl | rfl | rfl
    · exact .inl rfl
    · exact .inr (.inr (.inl rfl))
    · exact .inr (.inr (.inr (.inl S.mem1)))
    · exact .inr (.inr (.inr (.inr S.mem2)))
  noKeys := fun _ _ _ _ hA good h => getAttrOr_miss_zip good.1 rfl rfl rfl zip_no_keys (by decide +kernel) hA h
  iter := fun A s d Q E hA ok hne hdf h => by
    obtain ⟨gz, gTI, ⟨a, b, gTO⟩, h1, h2⟩ := ok
    simp only [List.mem_cons, List.mem_append, not_or] at hdf
    obtain ⟨nz, nTI, nTO, d1, d2⟩ := hdf
    have ni1 : d ≠ i1 := fun e => d1 (e ▸ S.mem1)
    have ni2 : d ≠ i2 := fun e => d2 (e ▸ S.mem2)
    refine wpAny_pyIter_zip gz (h z [z, TO, i1, i2] (fun i h => IsTupOf2 h TI (.ref i1) (.ref i2) ∧ St1 i h ∧ St2 i h ∧
      ((IsZip h z TI TO .none ∧ ∃ a b, IsTupOf2 h TO a b) ∨ ∃ T f oT, IsZipHeld h z TI TO T f ∧ h.get? T = some oT ∧ T ≠ z ∧ T ≠ i1 ∧ T ≠ i2 ∧ T ≠ d)) s.heap s.toks ?_
      ⟨gTI, h1, h2, .inl ⟨gz, a, b, gTO⟩⟩ (fun _ _ e => e) fun b hb => .inl hb)
    have ne1 : ∀ b ∈ fp1, b ≠ d := fun b hb e => d1 (e ▸ hb)
    have ne2 : ∀ b ∈ fp2, b ≠ d := fun b hb e => d2 (e ▸ hb)
    exact {
      off := fun hm => by
        simp only [List.mem_cons, List.not_mem_nil, or_false] at hm; rcases hm with e | e | e | e
        · exact nz e
        · exact nTO e
        · exact ni1 e
        · exact ni2 e
      frame := fun i h₁ h₂ st hkp => by
        obtain ⟨gTI, h1, h2, gz⟩ := st
        refine ⟨hkp _ _ (Ne.symm nTI) gTI, F1 _ _ _ h1 fun b hb o e => hkp b o (ne1 b hb) e, F2 _ _ _ h2 fun b hb o e => hkp b o (ne2 b hb) e, ?_⟩
        rcases gz with ⟨gz, a, b, gTO⟩ | ⟨T, f, oT, gz, gT, r1, r2, r3, r4⟩
        · exact .inl ⟨hkp _ _ (Ne.symm nz) gz, a, b, hkp _ _ (Ne.symm nTO) gTO⟩
        · exact .inr ⟨T, f, oT, hkp _ _ (Ne.symm nz) gz, hkp _ _ r4 gT, r1, r2, r3, r4⟩
      item := fun i s₁ Q₁ E₁ hlt st hds hQ => by
        obtain ⟨gTI, h1, h2, gz⟩ := st
        have lt1 : i < n1 := by omega
        have lt2 : i < n2 := by omega
        have ltn : ∀ {c o}, s₁.heap.get? c = some o → s₁.heap.objs.size ≠ c := fun e => Nat.ne_of_gt (Heap.lt_size e)
        have m1 : s₁.heap.objs.size ≠ i1 := let ⟨_, e⟩ := (D1 A hA).live _ _ h1; ltn e
        have m2 : s₁.heap.objs.size ≠ i2 := let ⟨_, e⟩ := (D2 A hA).live _ _ h2; ltn e
        rcases gz with ⟨gz, a, b, gTO⟩ | ⟨T, f, oT, gz, gT, r1, r2, r3, r4⟩
        · refine wpAny_pyNext_zipD2_item S (D1 A hA) (D2 A hA) gz gTI gTO h1 h2 lt1 lt2 fun x1 x2 h' tk q1 q2 a1 a2 a3 a4 a5 a6 hkp => ?_
          exact hQ s₁.heap.objs.size _ _ h' tk ⟨q1, q2⟩ (.inl ⟨_, a5, rfl, _, rfl⟩)
            ⟨hkp _ _ S.TIz S.TITO S.TIi1 S.TIi2 gTI, a3, a4, .inr ⟨s₁.heap.objs.size, false, _, a1, a5, ltn gz, m1, m2, Nat.ne_of_gt hds⟩⟩
            fun c o hc e => hkp c o (fun x => hc (by simp [x])) (fun x => hc (by simp [x])) (fun x => hc (by simp [x])) (fun x => hc (by simp [x])) e
        · refine held_item S (D1 A hA) (D2 A hA) gz gT gTI h1 h2 lt1 lt2 fun x1 x2 h' tk q1 q2 a1 a3 a4 a5 hkp => ?_
          exact hQ s₁.heap.objs.size _ _ h' tk ⟨q1, q2⟩ (.inl ⟨_, a5, rfl, _, rfl⟩)
            ⟨hkp _ _ S.TIz S.TIi1 S.TIi2 gTI, a3, a4, .inr ⟨T, true, oT, a1, hkp _ _ r1 r2 r3 gT, r1, r2, r3, r4⟩⟩
            fun c o hc e => hkp c o (fun x => hc (by simp [x])) (fun x => hc (by simp [x])) (fun x => hc (by simp [x])) e
      done := fun s₁ _ _ st hQ => by
        obtain ⟨gTI, h1, h2, gz⟩ := st
        rcases gz with ⟨gz, a, b, gTO⟩ | ⟨T, f, oT, gz, gT, r1, r2, r3, r4⟩
        · exact wpAny_pyNext_zipD2_end S (D1 A hA) (D2 A hA) gz gTI gTO h1 h2 (by omega) (by omega) (by omega) fun h' tk hkp => hQ h' tk fun c o hc e => hkp c o (fun x => hc (by simp [x])) (fun x => hc (by simp [x])) (fun x => hc (by simp [x])) (fun x => hc (by simp [x])) e
        · exact held_end S (D1 A hA) (D2 A hA) gz gT gTI h1 h2 (by omega) (by omega) (by omega) fun h' tk hkp => hQ h' tk fun c o hc e => hkp c o (fun x => hc (by simp [x])) (fun x => hc (by simp [x])) (fun x => hc (by simp [x])) e }
end
open PySem.Spec PyProof.Rows L2
theorem zip_keys {P : Program} {w : World} : ∀ {ks : List Key} {its : List Value} {xs : List V} {us : List Value}, Vals (ks.map kV) its → Vals xs us → KV (ks.zip xs) (ks.zip us) ∧ ∀ (i : Nat) (k v : Value), its[i]? = some k → us[i]? = some v → ∃ q, (ks.zip us)[i]? = some (q, v) ∧ (mixKind P w).is q k = true
  | [], _, xs, us, r, _ => ⟨.nil, fun i k v h _ => by cases r; simp at h⟩
  | q :: ks, _, xs, us, r, t => by
    rw [List.map_cons] at r
    cases r with
    | @cons a b as bs h r =>
      cases t with
      | nil => exact ⟨.nil, fun i k v _ h => by simp at h⟩
      | @cons a' b' as' bs' h' t =>
        obtain ⟨m, n⟩ := zip_keys (P := P) (w := w) r t
        refine ⟨.cons ⟨rfl, h'⟩ m, fun i k v e1 e2 => ?_⟩
        cases i with
        | zero =>
          cases e1
          cases e2
          exact ⟨q, rfl, kV_is h⟩
        | succ i =>
          obtain ⟨q', e3, e4⟩ := n i k v (by simpa using e1) (by simpa using e2)
          exact ⟨q', by simpa using e3, e4⟩
/-- dict(zip(t, l)): keys off a tuple, values off a list as long -/
def tDictZip (K : PySem.W.Frag) (ta : TA) : TE := fun σ H Q => ta σ H fun vs H1 => ∃ (t l : Addr) (ks : List Key) (xs : List V), vs = [.ref t, .ref l] ∧ SqT K H1 t (ks.map kV) ∧ SqL K H1 l xs ∧
  ∀ p, H1 p = none → Q (.ref p) (upd H1 p (.dK (mergeK [] (ks.zip xs))))
theorem sep2 (n t l : Nat) (ht : t < n) (hl : l < n) : ZipSep2 (n + 4 : Nat) (n + 2 : Nat) (n + 3 : Nat) n (n + 1 : Nat) [n, t] [n + 1, l] := by
  have k : ∀ x y : Nat, x ≠ y → x ≠ y := fun _ _ h => h
  have m : ∀ x p q : Nat, x ≠ p → x ≠ q → x ∉ [p, q] := fun x p q h1 h2 => by simp [h1, h2]
  exact ⟨k (n+2) (n+4) (by omega), k (n+3) (n+4) (by omega), k (n+2) (n+3) (by omega), k (n+2) n (by omega), List.mem_cons_self .., m (n+4) n t (by omega) (by omega), m (n+3) n t (by omega) (by omega),
    k (n+2) (n+1) (by omega), List.mem_cons_self .., m (n+4) (n+1) l (by omega) (by omega), m (n+3) (n+1) l (by omega) (by omega), m n (n+1) l (by omega) (by omega), m (n+1) n t (by omega) (by omega)⟩
theorem off_a (n t : Nat) (h : t < n) : n + 2 ∉ [n, t] := by simp; omega
theorem off_b (n t : Nat) (h : t < n) : n + 2 ∉ [n + 1, t] := by simp; omega
theorem off_c (n t : Nat) (h : t < n) : t ≠ n := by omega
theorem off_d (n t : Nat) (h : t < n) : t ≠ n + 1 := by omega
theorem pe_dictZip {X : Cx} {e e2 : Expr} {ta : TA} {p p2 pos pos2 : Pos} (hcalm : X.calm = true) (hg : Gl X "zip") (hm : X.mg "zip" = none) (hg2 : Gl X "dict") (hm2 : X.mg "dict" = none) (ha : PA X [e, e2] ta)
    (hs : starEach [e, e2] X.env = (false, eval e X.env) :: starEach [e2] X.env := by rfl) (hpl : (backTo pos (starEach [e2] X.env)).any (·.1) = false := by rfl)
    (hs2 : starEach [.Call (.Name "zip" p) [e, e2] [] pos] X.env = (false, eval (.Call (.Name "zip" p) [e, e2] [] pos) X.env) :: starEach [] X.env := by rfl) (hpl2 : (backTo pos2 (starEach [] X.env)).any (·.1) = false := by rfl) :
    PE X (.Call (.Name "dict" p2) [.Call (.Name "zip" p) [e, e2] [] pos] [] pos2) (tDictZip X.K ta) := by
  refine ⟨fun pn s σ H Q I h => ?_⟩
  refine Call_ (ld_blt I hg2 hm2 PyProof.Rows.boot_dict (PyProof.Rows.callWith_type1 ?_ hs2 hpl2))
  rw [hs2]
  show wpAny _ _ (spliced ((false, eval (.Call (.Name "zip" p) [e, e2] [] pos) X.env) :: backTo pos2 (starEach [] X.env))) _ _ s
  refine Calls.spliced_cons ?_
  refine Call_ (ld_blt I hg hm PyProof.Rows.boot_zip (PyProof.Rows.callWith_type1 (thn (ha.run pos pn s σ H _ I h) fun us s1 ⟨vs, H1, I1, r1, q1⟩ => ?_) hs hpl))
  obtain ⟨t, l, ks, xs, ex, hqt, hql, q⟩ := q1
  subst ex
  cases r1 with
  | cons r rr =>
    cases rr with
    | cons r' rr =>
      cases rr
      cases r
      cases r'
      obtain ⟨its, rv, p1, _⟩ := I1.tuple hqt
      obtain ⟨its2, rv2, p2, hz2⟩ := I1.list hql
      have e1 := rv.length
      have e3 := rv2.length
      rw [List.length_map] at e1
      have lta : t < s1.heap.objs.size := p1.lt
      have ltb : l < s1.heap.objs.size := p2.lt
      have hh : X.A.handled = none := I1.ok.hd hcalm
      refine zip_begins2 (begins_tuple t its.toArray) (begins_list l its2.toArray) p1 p2.isList fun h' gz gTI gTO g1 g2 hsz hkp => ?_
      refine Calls.spliced_nil ?_
      have I2 : Inv X pn σ H1 { s1 with heap := h' } := I1.kept (t' := s1.toks) hkp
      have P := pair_zip (prog := X.prog) (w := X.w) _ _ _ _ _ (sep2 s1.heap.objs.size t l lta ltb) (off_a s1.heap.objs.size t lta) (off_b s1.heap.objs.size l ltb)
        (fun A hA => Draws.tuple (prog := X.prog) (w := X.w) (A := A.in1) hA s1.heap.objs.size t (off_c s1.heap.objs.size t lta) its.toArray) (fun A hA => Draws.list (prog := X.prog) (w := X.w) (A := A.in1) hA (s1.heap.objs.size + 1) l (off_d s1.heap.objs.size l ltb) its2.toArray)
        (fun i h st b hb => by
          simp only [List.mem_cons, List.not_mem_nil, or_false] at hb; obtain ⟨⟨o1, z1, _⟩, ⟨o2, z2, _⟩⟩ := st
          rcases hb with rfl | rfl
          · exact ⟨_, z1⟩
          · exact ⟨_, z2⟩)
        (fun i h st b hb => by
          simp only [List.mem_cons, List.not_mem_nil, or_false] at hb; obtain ⟨⟨o1, z1, _⟩, ⟨o2, z2, _⟩⟩ := st
          rcases hb with rfl | rfl
          · exact ⟨_, z1⟩
          · exact ⟨_, z2⟩)
        (fun i h h' st k => ⟨st.1.at fun o e => k _ (by simp) o e, st.2.at fun o e => k _ (by simp) o e⟩) (fun i h h' st k => ⟨st.1.at fun o e => k _ (by simp) o e, st.2.at fun o e => k _ (by simp) o e⟩)
      obtain ⟨kv, kis⟩ := zip_keys (P := X.prog) (w := X.w) rv rv2
      have hn : min its.toArray.size its2.toArray.size = (ks.zip its2).length := by
        rw [List.length_zip]
        simp
        omega
      have hz3 : (ks.zip xs).length ≤ sizeLine := by
        rw [List.length_zip]
        omega
      refine PySem.call_dict_pairs (knd := mixKind X.prog X.w) (kvs := ks.zip its2) P hh ⟨gz, gTI, ⟨_, _, gTO⟩, ⟨⟨_, g1, rfl, rfl⟩, (show s1.heap.IsTuple t its.toArray from p1).at fun o e => hkp _ o e⟩, ⟨⟨_, g2, rfl, rfl⟩, p2.isList.at fun o e => hkp _ o e⟩⟩
        ⟨hn.symm, fun i key v hr => ?_⟩ ?_ fun h'' tk hd hk2 => ?_
      · exact kis i key v (by simpa using hr.1) (by simpa using hr.2)
      · rw [hn, ← kv.length]
        exact hz3
      · have fresh : H1 h'.objs.size = none := I2.hok.fresh (Nat.le_refl _)
        have hm0 : (h'.objs.size == sysModules) = false := beq_eq_false_iff_ne.mpr (Nat.ne_of_gt I2.big)
        have hl2 : (mergeK [] (ks.zip xs)).length ≤ sizeLine := by
          refine Nat.le_trans (length_mergeK (ks.zip xs) []) ?_
          rw [List.length_nil, Nat.zero_add]
          exact hz3
        refine ⟨.ref h'.objs.size, upd H1 h'.objs.size (.dK (mergeK [] (ks.zip xs))), ?_, rfl, q _ fresh⟩
        have new : ObjOk X.prog X.w (upd H1 h'.objs.size (.dK (mergeK [] (ks.zip xs)))) h'' h'.objs.size (.dK (mergeK [] (ks.zip xs))) := ⟨hl2, hm0, merged [] (ks.zip its2), KV.merge kv .nil, hd⟩
        have I3 : Inv X pn σ (upd H1 h'.objs.size (.dK (mergeK [] (ks.zip xs)))) { s1 with heap := h'', toks := tk } := I1.laid (t' := tk) (fun b o e => hk2 b o (fun hb => ?_) (hkp b o e)) (by rw [hsz]; omega) new
        · exact I3
        · have ltn := Heap.lt_size e
          simp only [List.mem_cons, List.not_mem_nil, or_false] at hb; have c : b = s1.heap.objs.size + 4 ∨ b = s1.heap.objs.size + 3 ∨ b = s1.heap.objs.size ∨ b = s1.heap.objs.size + 1 := hb
          have : ∀ x n : Nat, x < n → ¬ (x = n + 4 ∨ x = n + 3 ∨ x = n ∨ x = n + 1) := fun x n h => by omega
          exact this b _ ltn c
end TQ
end
section
set_option Elab.async false
namespace TQ
open PySem
def top (i : Nat) : Stmt := PySem.Challenge.pw_tenquestions_s01_answers.main.body.getD i (.Pass ⟨0, 0, 0, 0⟩)
abbrev s_bit : Stmt := top 6
abbrev s_everywhere : Stmt := top 7
abbrev s_variable : Stmt := top 8
abbrev s_opposite : Stmt := top 9
abbrev s_joined : Stmt := top 10
abbrev s_chosen : Stmt := top 11
abbrev s_case_with : Stmt := top 12
abbrev s_fixed : Stmt := top 13
abbrev s_for_either : Stmt := top 14
abbrev s_for_both : Stmt := top 15
abbrev s_put_for : Stmt := top 16
abbrev s_how_many : Stmt := top 17
abbrev s_first_yes : Stmt := top 18
abbrev s_first_outside : Stmt := top 19
abbrev s_does_matter : Stmt := top 20
abbrev s_mattering : Stmt := top 21
abbrev s_is_order : Stmt := top 23
abbrev s_half : Stmt := top 24
abbrev s_shortened : Stmt := top 25
abbrev s_whole_part : Stmt := top 26
abbrev s_gone_on : Stmt := top 27
abbrev s_number_parts : Stmt := top 28
abbrev s_numbered_parts : Stmt := top 29
abbrev s_place_of : Stmt := top 30
abbrev s_variable_of : Stmt := top 31
abbrev s_nodes_told : Stmt := top 32
abbrev s_how_many_nodes : Stmt := top 33
abbrev s_orders_of : Stmt := top 34
abbrev s_best_order : Stmt := top 35
abbrev s_new_registers : Stmt := top 41
abbrev s_make_const : Stmt := top 42
abbrev s_make_var : Stmt := top 43
abbrev s_make_not : Stmt := top 44
abbrev s_make_two : Stmt := top 45
abbrev s_make_choose : Stmt := top 46
abbrev s_make_fix : Stmt := top 47
abbrev s_make_some : Stmt := top 48
abbrev s_make_all : Stmt := top 49
abbrev s_make_put : Stmt := top 50
abbrev s_with_length : Stmt := top 51
abbrev s_answer_value : Stmt := top 52
abbrev s_answer_count : Stmt := top 53
abbrev s_answer_first : Stmt := top 54
abbrev s_answer_matters : Stmt := top 55
abbrev s_answer_diagram : Stmt := top 56
abbrev s_answer_best : Stmt := top 57
abbrev s_answer_within : Stmt := top 58
abbrev s_end_of_call : Stmt := top 60
abbrev s_told_by : Stmt := top 61
abbrev s_is_refused : Stmt := top 62
abbrev s_answered : Stmt := top 63
abbrev s_answers : Stmt := top 65
end TQ
end
section
set_option Elab.async false
set_option linter.all false
set_option maxRecDepth 100000
set_option maxHeartbeats 4100000
namespace TQ
open L2 PyProof.Rows PySem PySem.Spec
def vi (l : List Int) : List V := l.map V.int
def tv (g : Nat → Bool) : List V := vi (tb g)
theorem tv_len (g : Nat → Bool) : (tv g).length = 1024 := by simp [tv, vi, tb_len]
theorem tv_at (g : Nat → Bool) {m : Nat} (h : m < 1024) : (tv g)[m]? = some (.int (b2i (g m))) := by
  unfold tv vi
  rw [List.getElem?_map, tb_at g h]
  rfl
theorem tv_range (g : Nat → Bool) : (List.range 1024).map (fun m => V.int (b2i (g m))) = tv g := by
  unfold tv vi tb
  rw [List.map_map]
  rfl
section
variable {base : Heap} {mg : Str → Option Value} {K : PySem.W.Frag} {P : Program} {w : World}
/-! bit -/
def spBit : Sp := fun vs H Q _ => ∃ n p : Nat, vs = [.int n, .int p] ∧ Q (.int (b2i (n.testBit p))) H
theorem sc_bit : FnScope ["number", "place"] ["number", "place"] (defScope s_bit) := ⟨rfl, rfl, rfl, by decide +kernel, rfl, by decide +kernel, by decide +kernel⟩
theorem ok_bit (D : IsDef K mg "bit" s_bit ["number", "place"]) : DefOk P w K mg base 1 "bit" spBit := by
  refine D.ok sc_bit (fun vs H Q E h => ?_) (fun f cdv A outer s H vs Q E hr h => ?_)
  · obtain ⟨n, p, rfl, _⟩ := h
    rfl
  · obtain ⟨n, p, rfl, q⟩ := h
    refine ⟨_, pss_one (ps_ret (pe_op op_and (pe_op op_shr (pv 0) (pv 1)) pe_int)), ?_⟩
    refine ⟨_, rfl, _, rfl, _, _, rfl, rfl, Int.natCast_nonneg _, _, _, rfl, rfl, ?_⟩
    show Q (.int (Builtin.bitAnd ((n : Int) / 2 ^ (p : Int).toNat) 1)) H
    rw [Int.toNat_natCast, bitAnd_m1, shr_bit]
    exact q
/-! everywhere -/
def spEverywhere : Sp := fun vs H Q _ => ∃ z : Int, vs = [.int z] ∧ newL H (List.replicate 1024 (.int z)) Q
theorem sc_everywhere : FnScope ["said"] ["said"] (defScope s_everywhere) := ⟨rfl, rfl, rfl, by decide +kernel, rfl, by decide +kernel, by decide +kernel⟩
theorem ok_everywhere {t : Tok} (D : IsDef K mg "everywhere" s_everywhere ["said"]) (hC : mg "CASES" = some (.int 1024 t)) : DefOk P w K mg base 1 "everywhere" spEverywhere := by
  refine D.ok sc_everywhere (fun vs H Q E h => ?_) (fun f cdv A outer s H vs Q E hr h => ?_)
  · obtain ⟨n, rfl, _⟩ := h
    rfl
  · obtain ⟨z, rfl, q⟩ := h
    refine ⟨_, pss_one (ps_ret (pe_op op_rep (pe_lst (pa_cons (pv 0) pa_nil)) (pe_glob (v := .int 1024) rfl hC ⟨_, rfl⟩))), ?_⟩
    refine ⟨_, rfl, by show 1 ≤ sizeLine; decide, fun l hl => ?_⟩
    refine ⟨_, _, _, rfl, rfl, upd_same, by decide, by decide, by show 1 * 1024 ≤ sizeLine; decide, fun p hp => ?_⟩
    refine q _ p (Same.upd (same_upd hl) hp) ((same_upd hl).free hp) ?_
    rw [upd_same]
    exact congrArg (fun l => some (HO.lst l)) (by simp)
/-! variable -/
def spVariable : Sp := fun vs H Q _ => ∃ v : Nat, vs = [.int v] ∧ newL H (tv fun m => m.testBit v) Q
theorem sc_variable : FnScope ["v", "case"] ["v"] (defScope s_variable) := ⟨rfl, rfl, rfl, by decide +kernel, rfl, by decide +kernel, by decide +kernel⟩
theorem ok_variable {t : Tok} (D : IsDef K mg "variable" s_variable ["v"]) (hC : mg "CASES" = some (.int 1024 t)) (mR : mg "range" = none) (dB : DefOk P w K mg base 1 "bit" spBit) : DefOk P w K mg base 2 "variable" spVariable := by
  refine D.ok sc_variable (fun vs H Q E h => ?_) (fun f cdv A outer s H vs Q E hr h => ?_)
  · obtain ⟨n, rfl, _⟩ := h
    rfl
  · obtain ⟨v, rfl, q⟩ := h
    have nd := sc_variable.nd
    refine ⟨_, pss_one (ps_ret (pe_lc (own := [("case", 1)]) (g := gName 1) (tt := tYes) rfl nd (pi_range1 rfl mR (pa_cons (pe_glob (v := .int 1024) rfl hC ⟨_, rfl⟩) pa_nil))
      (blkOk_by (N := ["v", "case"]) (sc := defScope s_variable) (by decide +kernel)) (fun _ _ _ _ _ => pg_name (i := 1) nd rfl (Or.inl rfl)) (fun _ _ _ _ _ => pts_nil)
      (fun _ _ _ _ _ => pe_cl dB hr rfl (pa_cons (pv 1) (pa_cons (pv 0) pa_nil))))), ?_⟩
    refine ⟨_, rfl, by decide, by decide, fun D hD => ?_⟩
    refine lc_pure (J := Itr 0 1024) walk_range (fun m => .int (b2i (m.testBit v))) (by decide) hD (fun _ _ => trivial) (fun i x H1 H2 R hi s1 y k => ?_) (fun H1 s1 e => ?_)
    · obtain ⟨rfl, rfl⟩ := y
      refine ⟨rfl, _, rfl, _, rfl, i, v, by simp, ?_⟩
      exact k _ _ rfl (Same.refl _)
    · refine q H1 D s1 hD ?_
      rw [e, tv_range]
/-! opposite -/
def spOpposite (K : PySem.W.Frag) : Sp := fun vs H Q _ => ∃ (a : Addr) (g : Nat → Bool), vs = [.ref a] ∧ SqL K H a (tv g) ∧ newL H (tv fun m => !g m) Q
theorem sc_opposite : FnScope ["function", "said"] ["function"] (defScope s_opposite) := ⟨rfl, rfl, rfl, by decide +kernel, rfl, by decide +kernel, by decide +kernel⟩
theorem ok_opposite (D : IsDef K mg "opposite" s_opposite ["function"]) : DefOk P w K mg base 1 "opposite" (spOpposite K) := by
  refine D.ok sc_opposite (fun vs H Q E h => ?_) (fun f cdv A outer s H vs Q E hr h => ?_)
  · obtain ⟨a, g, rfl, _⟩ := h
    rfl
  · obtain ⟨a, g, rfl, ha, q⟩ := h
    have nd := sc_opposite.nd
    refine ⟨_, pss_one (ps_ret (pe_lc (own := [("said", 1)]) (g := gName 1) (tt := tYes) rfl nd (pi_list (pv 0))
      (blkOk_by (N := ["function", "said"]) (sc := defScope s_opposite) (by decide +kernel)) (fun _ _ _ _ _ => pg_name (i := 1) nd rfl (Or.inl rfl)) (fun _ _ _ _ _ => pts_nil)
      (fun _ _ _ _ _ => pe_op op_sub pe_int (pv 1)))), ?_⟩
    refine ⟨_, rfl, a, rfl, ⟨_, ha⟩, fun D hD => ?_⟩
    refine lc_pure (walk_list (K := K) (a := a) (xs := tv g)) (fun m => .int (b2i (!g m))) (by rw [tv_len]; decide) hD (fun _ s => s.seq ha) (fun i x H1 H2 R hi s1 y k => ?_) (fun H1 s1 e => ?_)
    · obtain ⟨rfl, hx⟩ := y
      rw [tv_len] at hi
      rw [tv_at g hi] at hx
      cases hx
      refine ⟨rfl, _, rfl, 1, b2i (g i), rfl, rfl, ?_⟩
      refine k _ _ ?_ (Same.refl _)
      cases g i <;> rfl
    · refine q H1 D s1 hD ?_
      rw [e, tv_len, tv_range]
/-! joined -/
def b2n (b : Bool) : Nat := if b = true then 1 else 0
theorem b2n_i (b : Bool) : b2i b = (b2n b : Int) := by cases b <;> rfl
theorem b2n_le (b : Bool) : b2n b ≤ 1 := by cases b <;> decide
def spJoined (K : PySem.W.Frag) : Sp := fun vs H Q _ => ∃ (op : Nat) (a b : Addr) (f g : Nat → Bool), vs = [.int op, .ref a, .ref b] ∧ SqL K H a (tv f) ∧ SqL K H b (tv g) ∧
  newL H (tv fun m => op.testBit (2 * b2n (f m) + b2n (g m))) Q
theorem sc_joined : FnScope ["op", "first", "second", "said", "place", "x", "y"] ["op", "first", "second"] (defScope s_joined) := ⟨rfl, rfl, rfl, by decide +kernel, rfl, by decide +kernel, by decide +kernel⟩
theorem ok_joined (D : IsDef K mg "joined" s_joined ["op", "first", "second"]) (mR : mg "range" = none) (mZ : mg "zip" = none) (dB : DefOk P w K mg base 1 "bit" spBit) : DefOk P w K mg base 2 "joined" (spJoined K) := by
  refine D.ok sc_joined (fun vs H Q E h => ?_) (fun fa cdv A outer s H vs Q E hr h => ?_)
  · obtain ⟨op, a, b, f, g, rfl, _⟩ := h
    rfl
  · obtain ⟨op, a, b, f, g, rfl, ha, hb, q⟩ := h
    have nd := sc_joined.nd
    refine ⟨_, pss_cons (ps_set (i := 3) nd rfl (Or.inr rfl) (pe_lc (own := [("place", 4)]) (g := gName 4) (tt := tYes) rfl nd (pi_range1 rfl mR (pa_cons pe_int pa_nil))
        (blkOk_by (N := ["op", "first", "second", "said", "place", "x", "y"]) (sc := defScope s_joined) (by decide +kernel)) (fun _ _ _ _ _ => pg_name (i := 4) nd rfl (Or.inl rfl)) (fun _ _ _ _ _ => pts_nil)
        (fun _ _ _ _ _ => pe_cl dB hr rfl (pa_cons (pv 0) (pa_cons (pv 4) pa_nil)))))
      (pss_one (ps_ret (pe_lc (own := [("x", 5), ("y", 6)]) (g := gTup K 2 (gCons (gName 5) (gCons (gName 6) gNil))) (tt := tYes) rfl nd (pi_zip rfl mZ (pa_cons (pv 1) (pa_cons (pv 2) pa_nil)))
        (blkOk_by (N := ["op", "first", "second", "said", "place", "x", "y"]) (sc := defScope s_joined) (by decide +kernel))
        (fun _ _ _ _ _ => pg_tup rfl (pgs_cons (pg_name (i := 5) nd rfl (Or.inl rfl)) (pgs_cons (pg_name (i := 6) nd rfl (Or.inl rfl)) pgs_nil))) (fun _ _ _ _ _ => pts_nil)
        (fun _ _ _ _ _ => pe_ix (show IxR _ (rIxL K) from ix_list) (pv 3) (pe_op op_add (pe_op op_mul pe_int (pv 5)) (pv 6)) (fun _ _ => rfl))))), ?_⟩
    refine ⟨_, rfl, by decide, by decide, fun D hD => ?_⟩
    refine lc_pure (J := Itr 0 4) walk_range (fun m => .int (b2i (op.testBit m))) (by decide) hD (fun _ _ => trivial) (fun i x H1 H2 R hi s1 y k => ?_) (fun H1 s1 e => ?_)
    · obtain ⟨rfl, rfl⟩ := y
      refine ⟨rfl, _, rfl, _, rfl, op, i, by simp, ?_⟩
      exact k _ _ rfl (Same.refl _)
    · refine ⟨_, rfl, _, rfl, a, b, _, _, rfl, s1.seq ha, s1.seq hb, fun D2 hD2 => ?_⟩
      refine lc_pure (walk_zip (K := K) (a := a) (b := b) (xs := tv f) (ys := tv g) (n := 1024) (by rw [tv_len, tv_len]; rfl)) (fun m => .int (b2i (op.testBit (2 * b2n (f m) + b2n (g m))))) (by decide) hD2 (fun _ s => ⟨s.seq (s1.seq ha), s.seq (s1.seq hb)⟩) (fun i x H2 H3 R hi s2 y k => ?_) (fun H2 s2 e2 => ?_)
      · obtain ⟨T, u, v, rfl, hT, rfl, hu, hv⟩ := y
        have hu' : u = .int (b2n (f i)) := by
          have := (tv_at f hi).symm.trans hu
          cases this
          rw [b2n_i]
        have hv' : v = .int (b2n (g i)) := by
          have := (tv_at g hi).symm.trans hv
          cases this
          rw [b2n_i]
        subst hu' hv'
        refine ⟨T, _, rfl, SqT.of upd_same, rfl, _, _, rfl, _, _, rfl, ⟨rfl, ?_⟩⟩
        refine ⟨rfl, _, rfl, _, rfl, 2, (b2n (f i) : Int), rfl, rfl, .inl ⟨by decide, by decide⟩, _, rfl, _, (b2n (g i) : Int), rfl, rfl, D, _, _, V.int (b2i (op.testBit (2 * b2n (f i) + b2n (g i)))), rfl, rfl, SqL.of ((same_upd hT) _ _ (s2 _ _ e)), ?_, ?_⟩
        · have e3 : (2 * (b2n (f i) : Int) + (b2n (g i) : Int)) = ((2 * b2n (f i) + b2n (g i) : Nat) : Int) := by omega
          rw [e3]
          refine atI_nat ?_
          have h1 := b2n_le (f i)
          have h2 := b2n_le (g i)
          rw [List.getElem?_map, List.getElem?_range (by omega)]
          rfl
        · exact k _ _ rfl (same_upd hT)
      · refine q H2 D2 (s1.trans s2) (s1.free hD2) ?_
        rw [e2, tv_range]
/-! chosen -/
def spChosen (K : PySem.W.Frag) : Sp := fun vs H Q _ => ∃ (a b c : Addr) (f g h : Nat → Bool), vs = [.ref a, .ref b, .ref c] ∧ SqL K H a (tv f) ∧ SqL K H b (tv g) ∧ SqL K H c (tv h) ∧
  newL H (tv fun m => if f m = true then g m else h m) Q
theorem sc_chosen : FnScope ["asked", "if_yes", "if_no", "x", "y", "n"] ["asked", "if_yes", "if_no"] (defScope s_chosen) := ⟨rfl, rfl, rfl, by decide +kernel, rfl, by decide +kernel, by decide +kernel⟩
theorem ok_chosen (D : IsDef K mg "chosen" s_chosen ["asked", "if_yes", "if_no"]) (mZ : mg "zip" = none) : DefOk P w K mg base 1 "chosen" (spChosen K) := by
  refine D.ok sc_chosen (fun vs H Q E h => ?_) (fun fa cdv A outer s H vs Q E hr h => ?_)
  · obtain ⟨a, b, c, f, g, h, rfl, _⟩ := h
    rfl
  · obtain ⟨a, b, c, f, g, h, rfl, ha, hb, hc, q⟩ := h
    have nd := sc_chosen.nd
    refine ⟨_, pss_one (ps_ret (pe_lc (own := [("x", 3), ("y", 4), ("n", 5)]) (g := gTup K 3 (gCons (gName 3) (gCons (gName 4) (gCons (gName 5) gNil)))) (tt := tYes) rfl nd (pi_zip3 rfl mZ (pa_cons (pv 0) (pa_cons (pv 1) (pa_cons (pv 2) pa_nil))))
        (blkOk_by (N := ["asked", "if_yes", "if_no", "x", "y", "n"]) (sc := defScope s_chosen) (by decide +kernel))
        (fun _ _ _ _ _ => pg_tup rfl (pgs_cons (pg_name (i := 3) nd rfl (Or.inl rfl)) (pgs_cons (pg_name (i := 4) nd rfl (Or.inl rfl)) (pgs_cons (pg_name (i := 5) nd rfl (Or.inl rfl)) pgs_nil)))) (fun _ _ _ _ _ => pts_nil)
        (fun _ _ _ _ _ => pe_ifExp (pt_cmpR op_eq (pv 3) pe_int (nomark _)) (pv 4) (pv 5)))), ?_⟩
    refine ⟨_, rfl, _, rfl, _, rfl, a, b, c, _, _, _, rfl, ha, hb, hc, fun D hD => ?_⟩
    refine lc_pure (walk_zip3 (K := K) (a := a) (b := b) (c := c) (xs := tv f) (ys := tv g) (zs := tv h) (n := 1024) (tv_len f) (tv_len g) (tv_len h)) (fun m => .int (b2i (if f m = true then g m else h m))) (by decide) hD (fun _ s => ⟨s.seq ha, s.seq hb, s.seq hc⟩) (fun i x H2 H3 R hi s2 y k => ?_) (fun H2 s2 e2 => ?_)
    · obtain ⟨T, u, v, z, rfl, hT, rfl, hu, hv, hz⟩ := y
      have eu := (tv_at f hi).symm.trans hu
      have ev := (tv_at g hi).symm.trans hv
      have ez := (tv_at h hi).symm.trans hz
      cases eu
      cases ev
      cases ez
      refine ⟨T, _, rfl, SqT.of upd_same, rfl, _, _, rfl, _, _, rfl, _, _, rfl, ⟨rfl, rfl, ?_⟩⟩
      refine ⟨_, rfl, rfl, _, rfl, ?_⟩; cases e : f i
      · refine iteF ⟨_, rfl, k _ _ ?_ (same_upd hT)⟩
        rw [e]
        rfl
      · refine iteT ⟨_, rfl, k _ _ ?_ (same_upd hT)⟩
        rw [e]
        rfl
    · refine q H2 D s2 hD ?_
      rw [e2, tv_range]
/-! case_with -/
def spCaseWith : Sp := fun vs H Q _ => ∃ (m v : Nat) (z : Bool), vs = [.int m, .int v, .int (b2i z)] ∧ v ≤ 9 ∧ Q (.int (Diag.setVar m v z : Nat)) H
theorem sc_case_with : FnScope ["case", "v", "said", "worth"] ["case", "v", "said"] (defScope s_case_with) := ⟨rfl, rfl, rfl, by decide +kernel, rfl, by decide +kernel, by decide +kernel⟩
theorem ok_case_with (D : IsDef K mg "case_with" s_case_with ["case", "v", "said"]) : DefOk P w K mg base 1 "case_with" spCaseWith := by
  refine D.ok sc_case_with (fun vs H Q E h => ?_) (fun fa cdv A outer s H vs Q E hr h => ?_)
  · obtain ⟨m, v, z, rfl, _⟩ := h
    rfl
  · obtain ⟨m, v, z, rfl, hv, q⟩ := h
    have nd := sc_case_with.nd
    refine ⟨_, pss_cons (ps_set (i := 3) nd rfl (Or.inl rfl) (pe_op op_shl pe_int (pv 1)))
      (pss_cons (ps_if (pt_cmpR op_eq (pv 2) pe_int (nomark _)) (pss_one (ps_ret (pe_op op_or (pv 0) (pv 3)))) pss_nil)
      (pss_one (ps_ret (pe_op op_sub (pe_op op_or (pv 0) (pv 3)) (pv 3))))), ?_⟩
    refine ⟨_, rfl, 1, (v : Int), rfl, rfl, ⟨Int.natCast_nonneg _, by omega, by decide⟩, ?_⟩
    have e1 : (1 * 2 ^ (v : Int).toNat : Int) = ((2 ^ v : Nat) : Int) := by
      rw [Int.toNat_natCast, Int.one_mul]
      exact (Int.natCast_pow 2 v).symm
    have e2 : Builtin.bitOr (m : Int) (1 * 2 ^ (v : Int).toNat) = ((m ||| 2 ^ v : Nat) : Int) := by
      rw [e1, Bits.bitOr_pp (Int.natCast_nonneg _) (Int.natCast_nonneg _), Int.toNat_natCast, Int.toNat_natCast]
    have e3 := setVar_or m v z
    refine ⟨_, rfl, rfl, _, rfl, ?_⟩; cases z
    · refine iteF ⟨_, rfl, _, rfl, _, _, rfl, rfl, _, rfl, _, _, rfl, rfl, ?_⟩
      show Q (.int (Builtin.bitOr (m : Int) (1 * 2 ^ (v : Int).toNat) - 1 * 2 ^ (v : Int).toNat)) H
      rw [e2, e1]
      have e4 : ((m ||| 2 ^ v : Nat) : Int) - ((2 ^ v : Nat) : Int) = ((Diag.setVar m v false : Nat) : Int) := by
        simp only [Bool.false_eq_true, if_false] at e3
        omega
      rw [e4]
      exact q
    · refine iteT ⟨_, rfl, _, rfl, _, _, rfl, rfl, ?_⟩
      show Q (.int (Builtin.bitOr (m : Int) (1 * 2 ^ (v : Int).toNat))) H
      rw [e2]
      simp only [if_true, Nat.add_zero] at e3
      rw [e3]
      exact q
/-! fixed -/
def spFixed (K : PySem.W.Frag) : Sp := fun vs H Q _ => ∃ (a : Addr) (g : Nat → Bool) (v : Nat) (z : Bool), vs = [.ref a, .int v, .int (b2i z)] ∧ SqL K H a (tv g) ∧ v ≤ 9 ∧ newL H (tv fun m => g (Diag.setVar m v z)) Q
theorem sc_fixed : FnScope ["function", "v", "said", "case"] ["function", "v", "said"] (defScope s_fixed) := ⟨rfl, rfl, rfl, by decide +kernel, rfl, by decide +kernel, by decide +kernel⟩
theorem ok_fixed {t : Tok} (D : IsDef K mg "fixed" s_fixed ["function", "v", "said"]) (hC : mg "CASES" = some (.int 1024 t)) (mR : mg "range" = none) (dC : DefOk P w K mg base 1 "case_with" spCaseWith) : DefOk P w K mg base 2 "fixed" (spFixed K) := by
  refine D.ok sc_fixed (fun vs H Q E h => ?_) (fun fa cdv A outer s H vs Q E hr h => ?_)
  · obtain ⟨a, g, v, z, rfl, _⟩ := h
    rfl
  · obtain ⟨a, g, v, z, rfl, ha, hv, q⟩ := h
    have nd := sc_fixed.nd
    refine ⟨_, pss_one (ps_ret (pe_lc (own := [("case", 3)]) (g := gName 3) (tt := tYes) rfl nd (pi_range1 rfl mR (pa_cons (pe_glob (v := .int 1024) rfl hC ⟨_, rfl⟩) pa_nil))
      (blkOk_by (N := ["function", "v", "said", "case"]) (sc := defScope s_fixed) (by decide +kernel)) (fun _ _ _ _ _ => pg_name (i := 3) nd rfl (Or.inl rfl)) (fun _ _ _ _ _ => pts_nil)
      (fun _ _ _ _ _ => pe_ix (show IxR _ (rIxL K) from ix_list) (pv 0) (pe_cl dC hr rfl (pa_cons (pv 3) (pa_cons (pv 1) (pa_cons (pv 2) pa_nil)))) (fun _ _ => rfl)))), ?_⟩
    refine ⟨_, rfl, by decide, by decide, fun D hD => ?_⟩
    refine lc_pure (J := Itr 0 1024) walk_range (fun m => .int (b2i (g (Diag.setVar m v z)))) (by decide) hD (fun _ _ => trivial) (fun i x H1 H2 R hi s1 y k => ?_) (fun H1 s1 e => ?_)
    · obtain ⟨rfl, rfl⟩ := y
      refine ⟨rfl, _, rfl, _, rfl, _, rfl, _, rfl, i, v, z, by simp, hv, ?_⟩
      refine ⟨a, _, _, _, rfl, rfl, s1.seq ha, atI_nat (tv_at g (setVar_lt hi (by omega))), k _ _ rfl (Same.refl _)⟩
    · refine q H1 D s1 hD ?_
      rw [e, tv_range]
/-! for_either, for_both -/
def spFor (K : PySem.W.Frag) (o : Bool → Bool → Bool) : Sp := fun vs H Q _ => ∃ (a : Addr) (g : Nat → Bool) (v : Nat), vs = [.ref a, .int v] ∧ SqL K H a (tv g) ∧ v ≤ 9 ∧ newL H (tv fun m => o (g (Diag.setVar m v false)) (g (Diag.setVar m v true))) Q
theorem sc_for_either : FnScope ["function", "v"] ["function", "v"] (defScope s_for_either) := ⟨rfl, rfl, rfl, by decide +kernel, rfl, by decide +kernel, by decide +kernel⟩
theorem ok_for_either {t : Tok} (D : IsDef K mg "for_either" s_for_either ["function", "v"]) (hC : mg "EITHER" = some (.int 14 t)) (dJ : DefOk P w K mg base 2 "joined" (spJoined K)) (dF : DefOk P w K mg base 2 "fixed" (spFixed K)) : DefOk P w K mg base 3 "for_either" (spFor K or) := by
  refine D.ok sc_for_either (fun vs H Q E h => ?_) (fun fa cdv A outer s H vs Q E hr h => ?_)
  · obtain ⟨a, g, v, rfl, _⟩ := h
    rfl
  · obtain ⟨a, g, v, rfl, ha, hv, q⟩ := h
    refine ⟨_, pss_one (ps_ret (pe_cl dJ hr rfl (pa_cons (pe_glob (v := .int 14) rfl hC ⟨_, rfl⟩) (pa_cons (pe_cl dF hr rfl (pa_cons (pv 0) (pa_cons (pv 1) (pa_cons pe_int pa_nil)))) (pa_cons (pe_cl dF hr rfl (pa_cons (pv 0) (pa_cons (pv 1) (pa_cons pe_int pa_nil)))) pa_nil))))), ?_⟩
    refine ⟨_, rfl, _, rfl, a, g, v, false, rfl, ha, hv, fun H1 p1 s1 n1 e1 => ?_⟩
    refine ⟨_, rfl, _, rfl, a, g, v, true, rfl, s1.seq ha, hv, fun H2 p2 s2 n2 e2 => ?_⟩
    refine ⟨14, p1, p2, _, _, rfl, SqL.of (s2 _ _ e1), SqL.of e2, fun H3 p3 s3 n3 e3 => ?_⟩
    refine q H3 p3 ((s1.trans s2).trans s3) ((s1.trans s2).free n3) ?_
    rw [e3]
    refine congrArg (fun l => some (HO.lst (vi l))) (tb_congr fun m _ => ?_)
    cases g (Diag.setVar m v false) <;> cases g (Diag.setVar m v true) <;> rfl
theorem sc_for_both : FnScope ["function", "v"] ["function", "v"] (defScope s_for_both) := ⟨rfl, rfl, rfl, by decide +kernel, rfl, by decide +kernel, by decide +kernel⟩
theorem ok_for_both {t : Tok} (D : IsDef K mg "for_both" s_for_both ["function", "v"]) (hC : mg "BOTH" = some (.int 8 t)) (dJ : DefOk P w K mg base 2 "joined" (spJoined K)) (dF : DefOk P w K mg base 2 "fixed" (spFixed K)) : DefOk P w K mg base 3 "for_both" (spFor K and) := by
  refine D.ok sc_for_both (fun vs H Q E h => ?_) (fun fa cdv A outer s H vs Q E hr h => ?_)
  · obtain ⟨a, g, v, rfl, _⟩ := h
    rfl
  · obtain ⟨a, g, v, rfl, ha, hv, q⟩ := h
    refine ⟨_, pss_one (ps_ret (pe_cl dJ hr rfl (pa_cons (pe_glob (v := .int 8) rfl hC ⟨_, rfl⟩) (pa_cons (pe_cl dF hr rfl (pa_cons (pv 0) (pa_cons (pv 1) (pa_cons pe_int pa_nil)))) (pa_cons (pe_cl dF hr rfl (pa_cons (pv 0) (pa_cons (pv 1) (pa_cons pe_int pa_nil)))) pa_nil))))), ?_⟩
    refine ⟨_, rfl, _, rfl, a, g, v, false, rfl, ha, hv, fun H1 p1 s1 n1 e1 => ?_⟩
    refine ⟨_, rfl, _, rfl, a, g, v, true, rfl, s1.seq ha, hv, fun H2 p2 s2 n2 e2 => ?_⟩
    refine ⟨8, p1, p2, _, _, rfl, SqL.of (s2 _ _ e1), SqL.of e2, fun H3 p3 s3 n3 e3 => ?_⟩
    refine q H3 p3 ((s1.trans s2).trans s3) ((s1.trans s2).free n3) ?_
    rw [e3]
    refine congrArg (fun l => some (HO.lst (vi l))) (tb_congr fun m _ => ?_)
    cases g (Diag.setVar m v false) <;> cases g (Diag.setVar m v true) <;> rfl
/-! how_many -/
def cnt (g : Nat → Bool) : Nat := ((List.range 1024).filter g).length
def spHowMany (K : PySem.W.Frag) : Sp := fun vs H Q _ => ∃ (a : Addr) (g : Nat → Bool), vs = [.ref a] ∧ SqL K H a (tv g) ∧ Q (.int (cnt g : Nat)) H
theorem sc_how_many : FnScope ["function"] ["function"] (defScope s_how_many) := ⟨rfl, rfl, rfl, by decide +kernel, rfl, by decide +kernel, by decide +kernel⟩
theorem ok_how_many (D : IsDef K mg "how_many" s_how_many ["function"]) (mS : mg "sum" = none) : DefOk P w K mg base 1 "how_many" (spHowMany K) := by
  refine D.ok sc_how_many (fun vs H Q E h => ?_) (fun fa cdv A outer s H vs Q E hr h => ?_)
  · obtain ⟨a, g, rfl, _⟩ := h
    rfl
  · obtain ⟨a, g, rfl, ha, q⟩ := h
    refine ⟨_, pss_one (ps_ret (pe_callB (cr_sum rfl) (by rfl) mS (by decide +kernel) (pa_cons (pv 0) pa_nil))), ?_⟩
    refine ⟨_, rfl, a, tb g, rfl, ha, ?_⟩
    have e : (tb g).sum = ((cnt g : Nat) : Int) := sum_filter g (List.range 1024)
    rw [e]
    exact q
end
end TQ
end
section
set_option Elab.async false
set_option linter.all false
set_option maxRecDepth 100000
set_option maxHeartbeats 4100000
/-! min(e, key=lambda a: ..) with captured names, over the hand layer -/
namespace TQ
open L2 PyProof.Rows PySem PySem.Spec
/-! ### the loop of min -/
section
variable {X : Cx} {pn : List (Addr × Obj)} {σ : L2.St} {l f I S : Addr} {xs : List V} {kf : Nat → Int} {G : Hp → Prop} {R : Result → Shared → Prop}
/-- pn more -/
theorem Inv.two {H : Hp} {s : Shared} {a b : Addr} {oa ob : Obj} (J : Inv X pn σ H s) (fa : FpOk X pn H a) (fb : FpOk X pn H b) (ha : s.heap.get? a = some oa) (hb : s.heap.get? b = some ob) (da : ∀ v, oa.data ≠ .cell v) (db : ∀ v, ob.data ≠ .cell v) :
    Inv X (pn ++ [(a, oa), (b, ob)]) σ H s :=
  J.pins_of fun p hh0 => by
    rcases List.mem_append.mp hh0 with z | z
    · exact J.pin p (List.mem_append_right _ z)
    · rcases List.mem_cons.mp z with rfl | z
      · exact ⟨ha, fa.1, fa.2.1, fa.2.2.1, da⟩
      · rw [List.mem_singleton.mp z]; exact ⟨hb, fb.1, fb.2.1, fb.2.2.1, db⟩
/-- what a turn of the key's call is -/
def KeyTurn (X : Cx) (pn : List (Addr × Obj)) (σ : L2.St) (f : Addr) (xs : List V) (kf : Nat → Int) (G : Hp → Prop) : Prop :=
  ∀ (i : Nat) (x : V) (v : Value) (pl : List (Addr × Obj)) (H : Hp) (s : Shared), xs[i]? = some x → RelV x v → G H → Inv X (pn ++ pl) σ H s →
    wpAny (model X.prog X.w) X.A.in1 (call (.ref f) [v]) (EP X (pn ++ pl) σ fun u H' => u = .int (kf i) ∧ G H') (fun _ _ => False) s
theorem seqObj_nc (n : String) (a : Array Value) (c : Nat) : ∀ v, (seqObj n a c).data ≠ .cell v := fun v z => by
  cases z
theorem min_loop (hc : X.calm = true) (hl : ∀ H, G H → SqL X.K H l xs) (turn : KeyTurn X pn σ f xs kf G) (hlI : l ≠ I) (hlS : l ≠ S) (hSI : S ≠ I)
    (hR : ∀ i x v H s, xs[i]? = some x → RelV x v → (∀ j, j < xs.length → kf i ≤ kf j ∧ (j < i → kf i < kf j)) → G H → Inv X pn σ H s → R (.ok (.ret v)) s) :
    ∀ (r j i : Nat) (H : Hp) (s : Shared) (xb : V) (vb : Value) (tb : Tok) (c : Nat), xs.length - (j + 1) = r → j + 1 ≤ xs.length → G H → Inv X pn σ H s → FpOk X pn H S → FpOk X pn H I →
      s.heap.get? S = some (seqObj "list" #[vb, .int (kf i) tb] c) → s.heap.IsListIter I l (j + 1) → xs[i]? = some xb → RelV xb vb → i ≤ j → (∀ j', j' ≤ j → kf i ≤ kf j' ∧ (j' < i → kf i < kf j')) →
      codeAny (model X.prog X.w) X.A (.builtin "min.loop" ⟨[.ref I, .ref f, .ref S], []⟩) R s := by
  have nameEq : (toString "min" ++ toString ".loop" : String) = "min.loop" := by decide
  intro r
  induction r with
  | zero =>
    intro j i H s xb vb tb c hr hj g J fS fI gS hit hxb rb hij hall
    have hin : j + 1 = xs.length := by omega
    have hh : X.A.handled = none := J.ok.hd hc
    obtain ⟨its, rv, pl, _⟩ := J.list (hl H g)
    have hsz : its.toArray.size = xs.length := by rw [List.size_toArray, rv.length]
    have W := Walks.list (prog := X.prog) (w := X.w) (A := X.A.in1) hh I l hlI its.toArray
    obtain ⟨hh0, gg, d, tkA, osA⟩ := s
    refine codeAny_builtin PySem.F.entry_min_loop ?_; rw [Around.under_plainId PySem.F.plain_min_loop _]
    show wpAny _ X.A.in1 (seqItems? (.ref S) >>= _) _ _ _
    refine wpAny_bind (wpAny_seqItems gS rfl ?_); show wpAny _ X.A.in1 (tryCatch (pyNext (.ref I)) _ >>= _) _ _ _
    refine wpAny_bind (wpAny_tryCatch (W.done _ _ _ ⟨by rw [hsz, ← hin]; exact hit, pl.isList⟩ fun h' tk' hk' => ?_))
    have J1 : Inv X pn σ H ⟨h', gg, d, tk', osA⟩ := J.turned (t' := tk') (it := I) (fun b o hb e => hk' b o (by simpa using hb) e) fI.1 fI.2.1 fI.2.2.2.1 fI.2.2.2.2.1 fI.2.2.2.2.2
    have hS' := hk' S _ (by simpa using hSI) gS
    show wpAny _ X.A.in1 (updateSeq S (fun _ => #[]) >>= _) _ _ _
    refine wpAny_bind ?_
    refine wpAny_updateSeq hS' rfl (wpAny_bind (wpAny_letGo (wpAny_pure ?_))); have s1 := Heap.SameBut.update h' S (Obj.mapSeq fun _ => (#[] : Array Value))
    refine hR i xb vb H _ hxb rb (fun j' hj' => hall j' (by omega)) g ?_
    exact J1.turned (t' := tk') (it := S) (fun b o hb e => (s1.2 b hb).trans e) fS.1 fS.2.1 fS.2.2.2.1 fS.2.2.2.2.1 fS.2.2.2.2.2
  | succ r ih =>
    intro j i H s xb vb tb c hr hj g J fS fI gS hit hxb rb hij hall
    have hlt : j + 1 < xs.length := by omega
    have hh : X.A.handled = none := J.ok.hd hc
    obtain ⟨its, rv, pl, _⟩ := J.list (hl H g)
    have hsz : its.toArray.size = xs.length := by rw [List.size_toArray, rv.length]
    have W := Walks.list (prog := X.prog) (w := X.w) (A := X.A.in1) hh I l hlI its.toArray
    obtain ⟨hh0, gg, d, tkA, osA⟩ := s
    refine codeAny_builtin PySem.F.entry_min_loop ?_; rw [Around.under_plainId PySem.F.plain_min_loop _]
    show wpAny _ X.A.in1 (seqItems? (.ref S) >>= _) _ _ _
    refine wpAny_bind (wpAny_seqItems gS rfl ?_); show wpAny _ X.A.in1 (tryCatch (pyNext (.ref I)) _ >>= _) _ _ _
    refine wpAny_bind (wpAny_tryCatch (W.item (j + 1) _ _ _ (by rw [hsz]; exact hlt) ⟨hit, pl.isList⟩ fun v h' tk' hP hst' hk' => ?_))
    have hv : its[j + 1]? = some v := by simpa using hP
    obtain ⟨xv, hxv, rxv⟩ : ∃ x, xs[j + 1]? = some x ∧ RelV x v := by
      obtain ⟨u, hu, ru⟩ := rv.get (show xs[j + 1]? = some xs[j + 1] from List.getElem?_eq_getElem hlt)
      rw [hv] at hu
      cases hu
      exact ⟨_, List.getElem?_eq_getElem hlt, ru⟩
    obtain ⟨oI', hoI', gc, gd⟩ := id hst'.1
    have J1 : Inv X pn σ H ⟨h', gg, d, tk', osA⟩ := J.turned (t' := tk') (it := I) (fun b o hb e => hk' b o (by simpa using hb) e) fI.1 fI.2.1 fI.2.2.2.1 fI.2.2.2.2.1 fI.2.2.2.2.2
    have hS' := hk' S _ (by simpa using hSI) gS
    have J2 := TQ.Inv.two J1 fS fI hS' hoI' (seqObj_nc _ _ _) (fun w z => by rw [gd] at z; cases z)
    show wpAny _ X.A.in1 (tryCatch (holding [v] (call (.ref f) [v])) _ >>= _) _ _ _
    refine wpAny_bind (wpAny_tryCatch (wpAny_holding (wpAny_mono (turn (j + 1) xv v _ H _ hxv rxv g J2) (fun x s'' he => ?_) fun _ _ hF => hF.elim)))
    obtain ⟨u, H2, J3, ru, hu, g2⟩ := he
    subst hu
    obtain ⟨t2, rfl⟩ := ru
    obtain ⟨hp2, gn2, d2, tk2, os2⟩ := s''
    have pS := J3.pin (S, seqObj "list" #[vb, .int (kf i) tb] c) (List.mem_append_right _ (List.mem_append_right _ (List.mem_cons_self ..)))
    have pI := J3.pin (I, oI') (List.mem_append_right _ (List.mem_append_right _ (List.mem_cons_of_mem _ (List.mem_cons_self ..))))
    have fS2 : FpOk X pn H2 S := ⟨pS.2.1, fS.2⟩
    have fI2 : FpOk X pn H2 I := ⟨pI.2.1, fI.2⟩
    have J4 : Inv X pn σ H2 ⟨hp2, gn2, d2, tk2, os2⟩ := J3.unpinned
    have gS2 : hp2.get? S = some (seqObj "list" #[vb, .int (kf i) tb] c) := pS.1
    have hit2 : hp2.IsListIter I l (j + 1 + 1) := ⟨oI', pI.1, gc, gd⟩
    show wpAny _ X.A.in1 (tryCatch (holding [v, .int (kf (j + 1)) t2] (richCompare .Lt (.int (kf (j + 1)) t2) (.int (kf i) tb) >>= _)) _ >>= _) _ _ _
    refine wpAny_bind (wpAny_tryCatch (wpAny_holding (wpAny_bind (CmpOf.ints_lt (prog := X.prog) (w := X.w) (A := X.A.in1) (P := fun i v => ∃ t, v = .int (kf i) t) kf (fun i v h => h) (j + 1) i _ _ _ _ _ ⟨t2, rfl⟩ ⟨tb, rfl⟩ ?_))))
    refine wpAny_bind (wpAny_holding (wpAny_truthy_bool ?_)); refine wpAny_bind (wpAny_letGo (wpAny_pure ?_)); by_cases hb' : kf (j + 1) < kf i
    · have s1 := Heap.SameBut.update hp2 S (Obj.mapSeq fun _ => #[v, .int (kf (j + 1)) t2])
      obtain ⟨c2, hc2⟩ : ∃ c2, (hp2.update S (Obj.mapSeq fun _ => #[v, .int (kf (j + 1)) t2])).get? S = some (seqObj "list" #[v, .int (kf (j + 1)) t2] c2) := ⟨_, get?_update_seq gS2 fun _ => #[v, .int (kf (j + 1)) t2]⟩
      simp only [hb', decide_true, if_true]; refine wpAny_bind ?_
      refine wpAny_updateSeq gS2 rfl (wpAny_bind (wpAny_letGo ?_))
      rw [nameEq]
      refine wpAny_pure ⟨plainId_quiet PySem.F.plain_min_loop _, ih (j + 1) (j + 1) H2 _ xv v t2 c2 (by omega) hlt g2 ?_ fS2 fI2 hc2 ⟨oI', (s1.2 I hSI.symm).trans pI.1, gc, gd⟩ hxv rxv (Nat.le_refl _) fun j' hj' => ?_⟩
      · exact J4.turned (t' := tk2) (it := S) (fun b o hb e => (s1.2 b hb).trans e) fS2.1 fS2.2.1 fS2.2.2.2.1 fS2.2.2.2.2.1 fS2.2.2.2.2.2
      · by_cases e : j' = j + 1
        · subst e; exact ⟨by omega, fun _ => by omega⟩
        · have ha1 := hall j' (by omega)
          have ha2 := ha1.1; exact ⟨by omega, fun _ => by omega⟩
    · simp only [hb', decide_false, Bool.false_eq_true, if_false]
      refine wpAny_bind (wpAny_letGo ?_); rw [nameEq]
      refine wpAny_pure ⟨plainId_quiet PySem.F.plain_min_loop _, ih (j + 1) i H2 _ xb vb tb c (by omega) hlt g2 J4 fS2 fI2 gS2 hit2 hxb rb (by omega) fun j' hj' => ?_⟩
      by_cases e : j' = j + 1
      · subst e; exact ⟨by omega, fun _ => by omega⟩
      · exact hall j' (by omega)
end
end TQ
end
section
set_option Elab.async false
set_option linter.all false
set_option maxRecDepth 100000
set_option maxHeartbeats 4100000
namespace TQ
open L2 PyProof.Rows PySem PySem.Spec
section
variable {X : Cx} {pn : List (Addr × Obj)} {σ : L2.St} {l f : Addr} {xs : List V} {kf : Nat → Int} {G : Hp → Prop} {Q : Value → Shared → Prop} {E : Value → Shared → Prop}
theorem min_call (hc : X.calm = true) (hl : ∀ H, G H → SqL X.K H l xs) (turn : KeyTurn X pn σ f xs kf G) (hne : 0 < xs.length) {H : Hp} {s : Shared} (g : G H) (J : Inv X pn σ H s)
    (hR : ∀ i x v H s, xs[i]? = some x → RelV x v → (∀ j, j < xs.length → kf i ≤ kf j ∧ (j < i → kf i < kf j)) → G H → Inv X pn σ H s → Q v s) :
    wpAny (model X.prog X.w) X.A (call (.builtin "min") [.ref l] [(Str.ofString "key", .ref f)]) Q E s := by
  have nameEq : (toString "min" ++ toString ".loop" : String) = "min.loop" := by decide
  have hh : X.A.handled = none := J.ok.hd hc
  obtain ⟨its, rv, pl, _⟩ := J.list (hl H g)
  have plL := pl.isList
  have hsz : its.toArray.size = xs.length := by rw [List.size_toArray, rv.length]
  obtain ⟨hh0, gg, d, tkA, osA⟩ := s
  have hll : l < hh0.objs.size := pl.lt
  refine kmk_tree PySem.F.kind_min PySem.F.plain_min PySem.F.entry_min (kmk_min_key _ _) ?_; show wpAny _ X.A.in1 (Builtin.Builtins.bindParams "min" ["key", "default"] 0 ⟨[], [(Str.ofString "key", .ref f)]⟩ >>= _) _ _ _
  refine wpAny_bind (wpAny_of_eq (show Builtin.Builtins.bindParams "min" ["key", "default"] 0 ⟨[], [(Str.ofString "key", .ref f)]⟩ = pure [some (.ref f), none] from rfl) ?_)
  refine wpAny_bind (wpAny_pure ?_); refine wpAny_bind (wpAny_pyIter_list plL ?_)
  refine wpAny_bind (wpAny_newList ?_ (Nat.zero_le _)); rw [nameEq]
  have hS : (hh0.push { cls := .type "list_iterator", data := .fields #[.ref l, .int 0 0] }).objs.size = hh0.objs.size + 1 := size_push' ..
  have hlI : l ≠ hh0.objs.size := Nat.ne_of_lt hll
  have hSI : (hh0.push { cls := .type "list_iterator", data := .fields #[.ref l, .int 0 0] }).objs.size ≠ hh0.objs.size := by rw [hS]; exact Nat.ne_of_gt (Nat.lt_succ_self _)
  have hlS : l ≠ (hh0.push { cls := .type "list_iterator", data := .fields #[.ref l, .int 0 0] }).objs.size := by rw [hS]; exact Nat.ne_of_lt (Nat.lt_succ_of_lt hll)
  refine wpAny_pure ⟨plainId_quiet PySem.F.plain_min_loop _, ?_⟩; have keepO : ∀ b o, hh0.get? b = some o → ((hh0.push { cls := .type "list_iterator", data := .fields #[.ref l, .int 0 0] }).push (seqObj "list" #[] 0)).get? b = some o := fun b o e => Heap.get?_push_of_some _ (Heap.get?_push_of_some _ e)
  have gI : ((hh0.push { cls := .type "list_iterator", data := .fields #[.ref l, .int 0 0] }).push (seqObj "list" #[] 0)).get? hh0.objs.size = some { cls := .type "list_iterator", data := .fields #[.ref l, .int 0 0] } := Heap.get?_push_of_some _ (Heap.get?_push_size _ rfl)
  have gS : ((hh0.push { cls := .type "list_iterator", data := .fields #[.ref l, .int 0 0] }).push (seqObj "list" #[] 0)).get? (hh0.push { cls := .type "list_iterator", data := .fields #[.ref l, .int 0 0] }).objs.size = some (seqObj "list" #[] 0) := Heap.get?_push_size _ rfl
  have fI : FpOk X pn H hh0.objs.size := J.fpOk (s := ⟨hh0, gg, d, tkA, osA⟩) (Nat.le_refl _) (J.hok.fresh (Nat.le_refl _))
  have fS : FpOk X pn H (hh0.push { cls := .type "list_iterator", data := .fields #[.ref l, .int 0 0] }).objs.size := J.fpOk (s := ⟨hh0, gg, d, tkA, osA⟩) (by rw [hS]; exact Nat.le_succ _) (J.hok.fresh (by rw [hS]; exact Nat.le_succ _))
  have JH : Inv X pn σ H ⟨(hh0.push { cls := .type "list_iterator", data := .fields #[.ref l, .int 0 0] }).push (seqObj "list" #[] 0), gg, d, tkA, osA⟩ := J.kept (t' := tkA) keepO
  have W := Walks.list (prog := X.prog) (w := X.w) (A := X.A.in1) hh hh0.objs.size l hlI its.toArray
  generalize (hh0.push { cls := .type "list_iterator", data := .fields #[.ref l, .int 0 0] }).objs.size = S at hSI hlS gS fS ⊢
  generalize hh0.objs.size = I at hlI gI fI W hSI ⊢
  have plH : ((hh0.push { cls := .type "list_iterator", data := .fields #[.ref l, .int 0 0] }).push (seqObj "list" #[] 0)).IsList l its.toArray := plL.at fun o e => keepO _ o e
  generalize ((hh0.push { cls := .type "list_iterator", data := .fields #[.ref l, .int 0 0] }).push (seqObj "list" #[] 0)) = h0 at gI gS JH plH ⊢
  refine codeAny_builtin PySem.F.entry_min_loop ?_; rw [Around.under_plainId PySem.F.plain_min_loop _]
  show wpAny _ X.A.in1 (seqItems? (.ref _) >>= _) _ _ _
  refine wpAny_bind (wpAny_seqItems gS rfl ?_); show wpAny _ X.A.in1 (tryCatch (pyNext (.ref I)) _ >>= _) _ _ _
  refine wpAny_bind (wpAny_tryCatch (W.item 0 _ _ _ (by rw [hsz]; exact hne) ⟨⟨_, gI, rfl, rfl⟩, plH⟩ fun v h' tk' hP hst' hk' => ?_))
  have hv : its[0]? = some v := by simpa using hP
  obtain ⟨xv, hxv, rxv⟩ : ∃ x, xs[0]? = some x ∧ RelV x v := by
    obtain ⟨u, hu, ru⟩ := rv.get (show xs[0]? = some xs[0] from List.getElem?_eq_getElem hne)
    rw [hv] at hu
    cases hu
    exact ⟨_, List.getElem?_eq_getElem hne, ru⟩
  obtain ⟨oI', hoI', gc, gd⟩ := id hst'.1
  have J1 : Inv X pn σ H ⟨h', gg, d, tk', osA⟩ := JH.turned (t' := tk') (it := I) (fun b o hb e => hk' b o (by simpa using hb) e) fI.1 fI.2.1 fI.2.2.2.1 fI.2.2.2.2.1 fI.2.2.2.2.2
  have hS' := hk' S _ (by simpa using hSI) gS
  have J2 := TQ.Inv.two J1 fS fI hS' hoI' (seqObj_nc _ _ _) (fun w z => by rw [gd] at z; cases z)
  show wpAny _ X.A.in1 (tryCatch (holding [v] (call (.ref f) [v])) _ >>= _) _ _ _
  refine wpAny_bind (wpAny_tryCatch (wpAny_holding (wpAny_mono (turn 0 xv v _ H _ hxv rxv g J2) (fun x s'' he => ?_) fun _ _ hF => hF.elim)))
  obtain ⟨u, H2, J3, ru, hu, g2⟩ := he
  subst hu
  obtain ⟨t2, rfl⟩ := ru
  obtain ⟨hp2, gn2, d2, tk2, os2⟩ := s''
  have pS := J3.pin (S, seqObj "list" #[] 0) (List.mem_append_right _ (List.mem_append_right _ (List.mem_cons_self ..)))
  have pI := J3.pin (I, oI') (List.mem_append_right _ (List.mem_append_right _ (List.mem_cons_of_mem _ (List.mem_cons_self ..))))
  have fS2 : FpOk X pn H2 S := ⟨pS.2.1, fS.2⟩
  have fI2 : FpOk X pn H2 I := ⟨pI.2.1, fI.2⟩
  have J4 : Inv X pn σ H2 ⟨hp2, gn2, d2, tk2, os2⟩ := J3.unpinned
  have gS2 : hp2.get? S = some (seqObj "list" #[] 0) := pS.1
  have s1 := Heap.SameBut.update hp2 S (Obj.mapSeq fun _ => #[v, .int (kf 0) t2])
  obtain ⟨c2, hc2⟩ : ∃ c2, (hp2.update S (Obj.mapSeq fun _ => #[v, .int (kf 0) t2])).get? S = some (seqObj "list" #[v, .int (kf 0) t2] c2) := ⟨_, get?_update_seq gS2 fun _ => #[v, .int (kf 0) t2]⟩
  show wpAny _ X.A.in1 (updateSeq S (fun _ => #[v, .int (kf 0) t2]) >>= _) _ _ _
  refine wpAny_bind ?_
  refine wpAny_updateSeq gS2 rfl ?_
  rw [nameEq]
  refine wpAny_pure ⟨plainId_quiet PySem.F.plain_min_loop _, min_loop hc hl turn hlI hlS hSI ?_ _ 0 0 H2 _ xv v t2 c2 rfl hne g2 ?_ fS2 fI2 hc2 ⟨oI', (s1.2 _ hSI.symm).trans pI.1, gc, gd⟩ hxv rxv (Nat.le_refl _) fun j' hj' => ?_⟩
  · exact hR
  · exact J4.turned (t' := tk2) (it := S) (fun b o hb e => (s1.2 b hb).trans e) fS2.1 fS2.2.1 fS2.2.2.2.1 fS2.2.2.2.2.1 fS2.2.2.2.2.2
  · have e : j' = 0 := by omega
    subst e; exact ⟨by omega, fun h => absurd h (Nat.lt_irrefl _)⟩
end
/-! ### the lambda -/
open LamX NdefX
/-- its words -/
structure LF where
  qual : Str
  params : Arguments
  body : Expr
  scope : Scope
  cl : List (Str × Addr)
  c : Addr
abbrev LF.nf (F : LF) : NF := ⟨"<lambda>", F.qual, F.params, [], F.scope, F.cl, F.c⟩
abbrev LF.obj (F : LF) (pm ctv : Value) : Obj := PySem.W.kla_obj "<lambda>" F.qual F.params F.body F.scope F.cl pm F.c ctv
section
variable {base : Heap} {mg : Str → Option Value} {K : PySem.W.Frag} {P : Program} {w : World} {N ps fr : List Str} {F : LF} {f : Addr} {k : Nat}
theorem lam_run (Sc : NScope N ps fr F.scope) (hb : ∀ (pm ctv : Value) (us : List Value), us.length = ps.length → bindArgs (PySem.W.kla_fn "<lambda>" F.qual F.params F.body F.scope F.cl pm (.ref F.c) ctv) ⟨us, []⟩ = pure (ps.zip us))
    {A : Around} {outer : List Env} {s : Shared} {H : Hp} {us : List Value} {vs : List V} {ws : List (Option V)} {Q : VK} {pm ctv : Value} {t : TE} (hr : Room (k + 1) A) (e0 : Env0 P w K mg base A outer s H) (ho : s.heap.get? f = some (F.obj pm ctv))
    (hc : H F.c = some (CodeO F.c F.qual)) (C : CellsAt F.cl fr ws s.heap H) (r : Vals vs us) (hl : vs.length = ps.length)
    (ht : Room k (A.deeper (envF F.nf f s.heap.objs.size)) → PE (ncx L2.CX0 P w K mg base N F.nf f A outer s H L2.E0) F.body t) (hq : t (startF N vs ws) H Q) :
    codeAny (model P w) A (.call (.ref f) ⟨us, []⟩) (CR L2.CX0 outer P w H s Q L2.E0) s := by
  have noLim : s.heap.NoLimit := e0.mod.nolimit.keeps fun b o e => (e0.bs b o e).1
  refine PySem.W.kla_callFunE hr.depth ho rfl Sc.co Sc.gen rfl (codeO_at e0.hok hc) ?_
  rw [hb pm ctv us (by rw [← r.length]; exact hl)]
  refine wpAny_pure (wpAny_newFunctionEnv Sc.nocell (fun ⟨n, _⟩ hy => Sc.par n (List.of_mem_zip hy).1) (fun h₁ hns hsb => ⟨noLim.fresh _ hsb, ?_⟩) Sc.kind)
  show codeAny _ _ (.expr F.body (envF F.nf f s.heap.objs.size)) _ _
  have keepO : ∀ b o, s.heap.get? b = some o → h₁.get? b = some o := fun b o e => hsb.extBut b o (Nat.ne_of_lt (Heap.lt_size e)) (Heap.get?_push_of_some _ e)
  have I : Inv (ncx L2.CX0 P w K mg base N F.nf f A outer s H L2.E0) [] (startF N vs ws) H { s with heap := h₁, toks := s.toks + (ps.zip us).length } := inv_startN Sc hr.hd e0 hl r C hns keepO
  refine PySem.W.kla_codeExpr (wpAny_mono ((ht (hr.deeper _)).run [] _ (startF N vs ws) H Q I hq) (fun v s' hs => ?_) fun e s' hs => hs)
  obtain ⟨v', H', J, rv, q⟩ := hs
  exact ⟨v', H', J.os, J.bare, J.base, J.hok, rv, q⟩
end
/-- min(e, key=lambda a: body): the list's first item with the least key -/
def tMinLam (K : PySem.W.Frag) (T : List (Addr × Str)) (N : List Str) (js : List Nat) (te tb : TE) : TE := fun σ H Q => te σ H fun v H1 => ∃ (l : Addr) (xs : List V), v = .ref l ∧ 0 < xs.length ∧ Tabs T H1 ∧ ∀ H2, ExtN H1 H2 → Tabs T H2 →
  ∃ kf : Nat → Int, SqL K H2 l xs ∧ (∀ i x H, xs[i]? = some x → Same H2 H → tb (startF N [x] (js.map (slotAt σ))) H fun u H' => u = .int (kf i) ∧ Same H2 H') ∧
    ∀ i x H, xs[i]? = some x → (∀ j, j < xs.length → kf i ≤ kf j ∧ (j < i → kf i < kf j)) → Same H2 H → Q x H
theorem pe_minLam {X : Cx} {T : List (Addr × Str)} {c P : Addr} {N fr : List Str} {a : Str} {js : List Nat} {params : Arguments} {body e : Expr} {scope : Scope} {te tb : TE} {k : Nat} {p pos lpos kpos : Pos}
    (hcalm : X.calm = true) (hst : X.stack = X.env :: X.outer) (hfr : X.env.frame = some X.env.locals) (hg : Gl X "min") (hm : X.mg "min" = none) (he : PE X e te) (TB : TabB X.base X.mg c P) (hcode : X.env.code = .ref c) (hmT : (P, X.env.qual ++ "<lambda>") ∈ T)
    (hu : ∀ p ∈ T, p.1 = P → p.2 = X.env.qual ++ "<lambda>") (hr : Room (k + 2) X.A) (Sc : NScope N [a] fr scope) (hdef : defaultsOf params X.env = ([], [])) (hfree : ∀ y ∈ scope.names, y.2 = .free → X.env.scope.names.lookup y.1 = some .cell ∨ X.env.scope.names.lookup y.1 = some .free)
    (hfrn : ∀ y ∈ fr, (y, NameKind.free) ∈ scope.names) (hjs : js.map (fun j => X.N[j]?) = fr.map some)
    (hbind : ∀ (q : Str) (cl : List (Str × Addr)) (pm cv ctv u : Value), bindArgs (PySem.W.kla_fn "<lambda>" q params body scope cl pm cv ctv) ⟨[u], []⟩ = pure [(a, u)])
    (hbody : ∀ (q : Str) (cl : List (Str × Addr)) (c' f : Addr) (A : Around) (outer : List Env) (s : Shared) (H : Hp), Room k (A.deeper (envF (LF.mk q params body scope cl c').nf f s.heap.objs.size)) →
      PE (ncx L2.CX0 X.prog X.w X.K X.mg X.base N (LF.mk q params body scope cl c').nf f A outer s H L2.E0) body tb)
    (hs0 : starEach [e] X.env = (false, eval e X.env) :: starEach [] X.env := by rfl) (hs1 : backTo pos (starEach [e] X.env) = (false, eval e X.env) :: backTo pos (starEach [] X.env) := by rfl) (hs2 : (backTo pos (starEach [e] X.env)).any (·.1) = false := by rfl) :
    PE X (.Call (.Name "min" p) [e] [⟨some "key", .Lambda params body scope lpos, kpos⟩] pos) (tMinLam X.K T N js te tb) := by
  refine ⟨fun pn s σ H Q I h => ?_⟩
  refine wpAny_Call_Name_kw (ld_blt I hg hm (by decide +kernel : bootBuiltins "min" = some (.builtin "min")) ?_ (by decide) (by decide))
  have ha : PA X [e] (tCons te tNil) := pa_cons he pa_nil hs0
  refine PyProof.Rows.callWith_kw (thn (ha.run pos pn s σ H (fun vs H1 => ∃ (l : Addr) (xs : List V), vs = [.ref l] ∧ 0 < xs.length ∧ Tabs T H1 ∧ ∀ H2, ExtN H1 H2 → Tabs T H2 →
      ∃ kf : Nat → Int, SqL X.K H2 l xs ∧ (∀ i x H, xs[i]? = some x → Same H2 H → tb (startF N [x] (js.map (slotAt σ))) H fun u H' => u = .int (kf i) ∧ Same H2 H') ∧
        ∀ i x H, xs[i]? = some x → (∀ j, j < xs.length → kf i ≤ kf j ∧ (j < i → kf i < kf j)) → Same H2 H → Q x H) I ?_) fun us s1 ⟨vs, H1, I1, r1, q1⟩ => ?_) hs1 hs2 (by rfl) (by rfl)
  · have e0 : ∀ (Q' : V → Hp → Prop), te σ H (fun x H1 => tNil σ H1 fun xs H2 => Q' x H2) = te σ H fun x H1 => Q' x H1 := fun Q' => rfl
    show te σ H (fun x H1 => ∃ (l : Addr) (xs : List V), [x] = [V.ref l] ∧ _)
    have e1 : (fun (x : V) (H1 : Hp) => ∃ (l : Addr) (xs : List V), [x] = [V.ref l] ∧ 0 < xs.length ∧ Tabs T H1 ∧ ∀ H2, ExtN H1 H2 → Tabs T H2 →
      ∃ kf : Nat → Int, SqL X.K H2 l xs ∧ (∀ i x H, xs[i]? = some x → Same H2 H → tb (startF N [x] (js.map (slotAt σ))) H fun u H' => u = .int (kf i) ∧ Same H2 H') ∧
        ∀ i x H, xs[i]? = some x → (∀ j, j < xs.length → kf i ≤ kf j ∧ (j < i → kf i < kf j)) → Same H2 H → Q x H) = fun v H1 => ∃ (l : Addr) (xs : List V), v = .ref l ∧ 0 < xs.length ∧ Tabs T H1 ∧ ∀ H2, ExtN H1 H2 → Tabs T H2 →
      ∃ kf : Nat → Int, SqL X.K H2 l xs ∧ (∀ i x H, xs[i]? = some x → Same H2 H → tb (startF N [x] (js.map (slotAt σ))) H fun u H' => u = .int (kf i) ∧ Same H2 H') ∧
        ∀ i x H, xs[i]? = some x → (∀ j, j < xs.length → kf i ≤ kf j ∧ (j < i → kf i < kf j)) → Same H2 H → Q x H := by
      funext x H1
      simp only [List.cons.injEq, and_true]
    rw [e1]
    exact h
  · obtain ⟨l, xs, rfl, hne, hT, q⟩ := q1
    obtain rfl := Vals.ref1 r1
    show wpAny _ _ (evalAll [do let v ← eval (.Lambda params body scope lpos) X.env; standAt pos; pure v]) _ _ s1
    have hfr2 : ∀ y ∈ scope.names, y.2 = .free → ∃ c, X.env.cells.lookup y.1 = some c := fun y hy e => (hfree y hy e).elim (fun z => I1.ok.has _ (.inl z)) fun z => I1.ok.has _ (.inr z)
    refine wpAny_evalAll_cons (wpAny_bind (lam_make2 I1 TB hcode hmT hu hT hdef hfr2 fun f c' pm ctv H2 s2 I2 eN T2 hf hfn hff hco => wpAny_bind (wpAny_standAt (wpAny_pure (wpAny_evalAll_nil ?_)))))
    obtain ⟨kf, hl, turns, done⟩ := q H2 eN T2
    have hstk : frs X.stack = X.env.locals :: X.fs := by
      rw [hst]
      unfold frs
      rw [List.filterMap_cons, hfr]
      rfl
    rw [hstk] at hff
    have I3 : Inv X (pn ++ [(f, (LF.mk (X.env.qual ++ "<lambda>") params body scope (cloFrom X.env.cells scope.names []) c').obj pm ctv)]) σ H2 s2 := I2.pins_of fun p hh0 => by
      rcases List.mem_append.mp hh0 with z | z
      · exact I2.pin p (List.mem_append_right _ z)
      · rw [List.mem_singleton.mp z]; exact ⟨hf, hfn, fun z => hff (List.mem_cons.mpr (.inl z)), fun z => hff (List.mem_cons_of_mem _ z), fun v z => by cases z⟩
    show wpAny _ _ (call (.builtin "min") [.ref l] [(Str.ofString "key", .ref f)]) _ _ s2
    refine min_call (G := Same H2) (kf := kf) hcalm (fun H g => g.seq hl) (fun i x v pl H s hx rx g J => ?_) hne (Same.refl _) I3 fun i x v H s hx rx hb g J => ⟨x, H, J.unpinned, rx, done i x H hx hb g⟩
    have hc2 : H c' = some (CodeO c' (X.env.qual ++ "<lambda>")) := g _ _ hco
    have ho : s.heap.get? f = some ((LF.mk (X.env.qual ++ "<lambda>") params body scope (cloFrom X.env.cells scope.names []) c').obj pm ctv) := (J.pin (f, _) (List.mem_append_right _ (List.mem_append_left _ (List.mem_append_right _ (List.mem_singleton.mpr rfl))))).1
    have C := cells_of J (Caps.made (fr := fr) (js := js) J.ok hfree hfrn hjs)
    refine wpAny_call (codeAny_mono (lam_run (F := ⟨X.env.qual ++ "<lambda>", params, body, scope, cloFrom X.env.cells scope.names [], c'⟩) (P := X.prog) (w := X.w) (K := X.K) (mg := X.mg) (base := X.base) (outer := X.stack) (k := k) Sc (fun pm ctv us hus => ?_) (A := X.A.in1) hr.in1 J.env0.in1 ho hc2 C (.cons rx .nil) rfl
      (fun hr2 => hbody _ _ c' f _ _ s H hr2) (turns i x H hx g)) fun r s' hq => ?_)
    · match us, hus with
      | [u], _ => exact hbind _ _ _ _ _ _
    · cases r with
      | error e => exact hq.elim
      | ok fl =>
        cases fl with
        | ret u => exact J.after hq
        | next => exact False.elim hq
        | brk => exact False.elim hq
        | cont => exact False.elim hq
end TQ
end
section
set_option Elab.async false
set_option linter.all false
set_option maxRecDepth 100000
set_option maxHeartbeats 4100000
/-! the end of a Spec row, with tables of code objects -/
namespace TQ
open LamX L2 PyProof.Rows PySem PySem.Spec
open PySem.W (Codec OpenSpec ReadsAllW ReadsW WData Well WellAll)
mutual
theorem dw_same {K : PySem.W.Frag} {H H' : Hp} (u : Same H H') : ∀ (d : WData) (v : V), Dw K H v d → Dw K H' v d
  | .none, _, x => by
    cases x
    exact .non
  | .bool b, _, x => by
    cases x
    exact .bl b
  | .int i, _, x => by
    cases x
    exact .int i
  | .str s, _, x => by
    cases x
    exact .str s
  | .bytes b, _, x => by
    cases x
    exact .byt _
  | .list ds, _, x => by
    cases x with
    | lst hs ha => exact .lst (u.seq hs) (dw_sameAll u ds _ ha)
  | .tuple ds, _, x => by
    cases x with
    | tup hs ha => exact .tup (Same.seqT u hs) (dw_sameAll u ds _ ha)
  | .float _, _, x => by cases x
  | .dict _, _, x => by cases x
  | .bytearray _, _, x => by cases x
  | .set _, _, x => by cases x
  | .frozenset _, _, x => by cases x
  | .obj _ _, _, x => by cases x
theorem dw_sameAll {K : PySem.W.Frag} {H H' : Hp} (u : Same H H') : ∀ (ds : List WData) (vs : List V), DwAll K H vs ds → DwAll K H' vs ds
  | [], _, x => by
    cases x
    exact .nil
  | d :: ds, _, x => by
    cases x with
    | cons h1 h2 => exact .cons (dw_same u d _ h1) (dw_sameAll u ds _ h2)
end
theorem spec_callTs {P : Program} {w : World} {K : PySem.W.Frag} {mg mbn : Str → Option Value} {CX : CXT} {k : Nat} {fa : Addr} {fd : FuncData} {cs : List (Addr × Addr)} {ps : List Str} {sp : Sp} {s₁ : Shared} {vals : List Value} {ds : List WData} {R : PySem.W.WRecords} {cl : Str → Option Addr} {d0 : WData}
    (hKi : K.In s₁.heap) (hgn : s₁.heap.Ns mainGlobals mg) (hbu : s₁.heap.Ns builtinsNs mbn) (hbn : ∀ x : Str, x ≠ "__name__" → mbn x = bootBuiltins x) (hli : s₁.heap.NoLimit) (hg : s₁.gens = #[])
    (hTb : ∀ p ∈ cs, s₁.heap.get? p.2 = some { cls := .none, data := .fields #[] }) (nTb : ∀ p ∈ cs, K.lookup p.2 = none) (C : ∀ p ∈ cs, PySem.W.CodeHd s₁.heap p.1 p.2)
    (hbi : ∃ (bmA : Addr) (ob : Obj), mg "__builtins__" = some (.ref bmA) ∧ bmA ≠ builtinsNs ∧ s₁.heap.get? bmA = some ob ∧ ob.cls = .type "module" ∧ ob.dict = some builtinsNs ∧ ob.data = .plain)
    (hwel : WellAll w.params s₁.heap vals ds) (hpla : plWs ds = true) (hwgt : ∀ d ∈ ds, d.weight ≤ 1048576) (hr : Room k callerA)
    (F : ∀ base : Heap, K.In base → base.Ns mainGlobals mg → (∀ p ∈ cs, TabB base mg p.1 p.2) → FnOk P w K mg base CX k fa fd ps sp) (hbind : ∀ (s : Shared) (us : List Value), us.length = ps.length → BindsTo s fd ⟨us, []⟩ (ps.zip us)) (hln : ds.length = ps.length)
    (hsp : ∀ (H : Hp) (xs : List V), (∀ p ∈ cs, H p.2 = some (.tbl #[])) → DwAll K H xs ds → sp xs H (fun v H' => Dw K H' v d0) fun _ _ _ => False)
    (hEx : ∀ H e s', CX [] H s₁ (fun _ _ _ => False) e s' → False) :
    codeAny (model P w) callerA (.call (Value.ref fa) ⟨vals, []⟩) (fun r s' => ∃ u as, r = .ok (.ret u) ∧ ReadsW R cl s'.heap u d0 as ∧ OldK s₁.heap s'.heap ∧ s'.os = s₁.os ∧ AllBare s'.gens) s₁ := by
  obtain ⟨A, hov, are⟩ := area_all ds vals hwel hpla hwgt
  have hO0 : OnlyF (argH K s₁.heap A) := argH_only are
  have hok0 : HOk P w (argH K s₁.heap A) s₁.heap := argH_ok are
  have hS0 := dw_all hKi are ds vals hwel hpla hov
  have hV := vals_toV hov
  have hK0 : ∀ b u, argH K s₁.heap A b = some u → K.lookup b = none := fun b u q => (argH_is are q).1
  have tabs : ∀ b : Addr, b ∈ cs.map (·.2) → s₁.heap.get? b = some { cls := .none, data := .fields #[] } := fun b hbu => by
    obtain ⟨p, hp, e⟩ := List.mem_map.mp hbu
    rw [← e]
    exact hTb p hp
  have inT : ∀ p ∈ cs, p.2 ∈ cs.map (·.2) := fun p hp => List.mem_map.mpr ⟨p, hp, rfl⟩
  -- no table among the arguments
  have notA : ∀ b, b ∈ cs.map (·.2) → argH K s₁.heap A b = none := fun b hbu => by
    cases q : (argH K s₁.heap A b) with
    | none => rfl
    | some u =>
      obtain ⟨_, vs, _, _, ⟨e2, _⟩ | ⟨e2, _⟩⟩ := argH_is are q
      · rw [tabs b hbu] at e2
        have z : Data.fields #[] = Data.seq vs.toArray _ := congrArg Obj.data (Option.some.inj e2)
        cases z
      · rw [tabs b hbu] at e2
        have z : Data.fields #[] = Data.seq vs.toArray _ := congrArg Obj.data (Option.some.inj e2)
        cases z
  -- the arguments as data stand in the larger heap too
  let H : Hp := fun b => if b ∈ cs.map (·.2) then some (.tbl #[]) else argH K s₁.heap A b
  have up : Same (argH K s₁.heap A) H := fun b o e => by
    show (if b ∈ cs.map (·.2) then some (HO.tbl #[]) else argH K s₁.heap A b) = some o
    rw [if_neg fun hbu => by rw [notA b hbu] at e; cases e]
    exact e
  have hH : ∀ p ∈ cs, H p.2 = some (.tbl #[]) := fun p hp => if_pos (inT p hp)
  have hS : DwAll K H (vals.map toV) ds := dw_sameAll up ds _ hS0
  have inv : ∀ b u, H b = some u → (b ∈ cs.map (·.2) ∧ u = .tbl #[]) ∨ (b ∉ cs.map (·.2) ∧ argH K s₁.heap A b = some u) := fun b u e => by
    by_cases hbu : b ∈ cs.map (·.2)
    · exact .inl ⟨hbu, (Option.some.inj ((if_pos hbu).symm.trans e)).symm⟩
    · exact .inr ⟨hbu, (if_neg hbu).symm.trans e⟩
  have okH : HOk P w H s₁.heap := fun b u e => by
    rcases inv b u e with ⟨hbu, rfl⟩ | ⟨hbu, e'⟩
    · exact tabs b hbu
    · exact (hok0 b u e').stay (fun _ _ _ q => q) (fun c q => up _ _ q) fun c xs q => up _ _ q
  have hK : ∀ b u, H b = some u → K.lookup b = none := fun b u e => by
    rcases inv b u e with ⟨hbu, rfl⟩ | ⟨hbu, e'⟩
    · obtain ⟨p, hp, ep⟩ := List.mem_map.mp hbu
      rw [← ep]
      exact nTb p hp
    · exact hK0 b u e'
  have isS : ∀ b u, H b = some u → (b ∈ cs.map (·.2)) ∨ ∃ vs : List Value, s₁.heap.get? b = some { cls := .type "list", data := .seq vs.toArray } ∨ s₁.heap.get? b = some { cls := .type "tuple", data := .seq vs.toArray } := fun b u e => by
    rcases inv b u e with ⟨hbu, rfl⟩ | ⟨hbu, e'⟩
    · exact .inl hbu
    · obtain ⟨_, vs, _, _, ⟨e2, _⟩ | ⟨e2, _⟩⟩ := argH_is are e'
      · exact .inr ⟨vs, .inl e2⟩
      · exact .inr ⟨vs, .inr e2⟩
  have stays : ∀ {b : Addr} {o : Obj}, s₁.heap.get? b = some o → H b = none → (hidT s₁.heap H).get? b = some o := fun e n => hidT_get e n
  have freeD : ∀ {b : Addr} {o : Obj}, s₁.heap.get? b = some o → (∀ vs n, o.data ≠ .seq vs n) → o.data ≠ .fields #[] → H b = none := fun {b o} e h1 h2 => by
    cases q : H b with
    | none => rfl
    | some u =>
      rcases isS b u q with hbu | ⟨vs, e2 | e2⟩
      · rw [tabs b hbu] at e
        cases e
        exact (h2 rfl).elim
      · rw [e2] at e
        cases e
        exact (h1 _ _ rfl).elim
      · rw [e2] at e
        cases e
        exact (h1 _ _ rfl).elim
  have freeA : ∀ {b : Addr} {o : Obj} {es : Array DictEntry} {ep : Nat}, s₁.heap.get? b = some o → o.data = .dict es ep → H b = none := fun {b o es ep} e d => by
    refine freeD e (fun vs n z => ?_) fun z => ?_
    · rw [d] at z
      cases z
    · rw [d] at z
      cases z
  have nsH : ∀ {b : Addr} {m : Str → Option Value}, s₁.heap.Ns b m → (hidT s₁.heap H).Ns b m := fun {b m} ⟨o, es, ep, e, d, r⟩ => ⟨o, es, ep, stays e (freeA e d), d, r⟩
  have nKH : ∀ b o, K.lookup b = some o → H b = none := fun b o e => by
    cases q : H b with
    | none => rfl
    | some u =>
      rw [hK b u q] at e
      cases e
  have kInH : K.In (hidT s₁.heap H) := fun b o e => stays (hKi b o e) (nKH b o e)
  have modH : L2.Mod K mg (hidT s₁.heap H) := ⟨kInH, nsH hgn, ⟨mbn, nsH hbu, hbn⟩, let ⟨mc, h1, h2⟩ := hli; ⟨mc, nsH h1, h2⟩⟩
  have tabB : ∀ p ∈ cs, TabB (hidT s₁.heap H) mg p.1 p.2 := fun p hp => by
    have hTp := hTb p hp
    refine ⟨?_, ?_, fun z => ?_⟩
    · obtain ⟨o, us, file, tf, flags, tg, inF, text, tt, e1, r1, r2, r3, r4, r5, r6, r7, r8, dif⟩ := C p hp
      refine ⟨o, us, file, tf, flags, tg, inF, text, tt, stays e1 (freeD e1 (fun vs n z => ?_) fun z => ?_), r1, r2, r3, r4, r5, r6, r7, r8, dif⟩
      · rw [r2] at z
        cases z
      · rw [r2] at z
        cases z
        simp at r3
    · obtain ⟨bmA, ob, b1, b2, b3, b4, b5, b6⟩ := hbi
      have neG : bmA ≠ mainGlobals := fun q => by
        obtain ⟨o, es, ep, e, hd, _⟩ := hgn
        rw [q, e] at b3
        cases b3
        rw [hd] at b6
        cases b6
      have neP : bmA ≠ p.2 := fun q => by
        rw [q, hTp] at b3
        cases b3
        cases b6
      refine ⟨bmA, ob, b1, b2, neG, neP, stays b3 (freeD b3 (fun vs n z => ?_) fun z => ?_), b4, b5, b6⟩
      · rw [b6] at z
        cases z
      · rw [b6] at z
        cases z
    · obtain ⟨o, es, ep, e, hd, _⟩ := hgn
      rw [z, hTp] at e
      cases e
      cases hd
  have env0 : Env0 P w K mg (hidT s₁.heap H) callerA [] s₁ H := ⟨rfl, modH, fun b o e => of_hidT e, Nat.le_of_eq (hidT_size _ _), trivial, fun b hbu => absurd (show b ∈ ([] : List Addr) from hbu) (by simp), okH, .of_eq hg⟩
  have hlv : vals.length = ps.length := by rw [wellAll_len hwel]; exact hln
  refine codeAny_mono ((F _ kInH (nsH hgn) tabB).run callerA [] s₁ H ⟨vals, []⟩ vals (vals.map toV) _ _ hr env0 (hbind s₁ vals hlv) hV (hsp H _ hH hS)) fun r s' x => ?_
  cases r with
  | error e => exact (hEx H e s' x).elim
  | ok fl =>
    cases fl with
    | next => exact False.elim x
    | brk => exact False.elim x
    | cont => exact False.elim x
    | ret u =>
      obtain ⟨v, H', os, brs, chg, hok', r', q⟩ := x
      have kept0 : ∀ b o, b ∉ cs.map (·.2) → s₁.heap.get? b = some o → s'.heap.get? b = some o := fun b o nb e => by
        cases q2 : H b with
        | none => exact chg.keep b o e q2 (by intro z; exact absurd (show b ∈ ([] : List Addr) from z) (by simp)) (by simp)
        | some u2 =>
          rcases inv b u2 q2 with ⟨hbu, _⟩ | ⟨_, e'⟩
          · exact absurd hbu nb
          · rcases hO0 b with z | ⟨ob, u3, z⟩
            · rw [z] at e'
              cases e'
            · have z1 : H b = some (.frz ob u3) := up _ _ z
              have z2 := chg.frzs b ob _ z1
              obtain ⟨e1, _⟩ := okH b _ z1
              obtain ⟨e2, _⟩ := hok' b _ z2
              rw [e] at e1
              cases e1
              exact e2
      have grew : ∀ p ∈ cs, ∃ more : Array Value, s'.heap.get? p.2 = some { cls := .none, data := .fields more } := fun p hp => by
        obtain ⟨more, z⟩ := chg.tbls p.2 #[] (hH p hp)
        exact ⟨_, hok' p.2 _ z⟩
      have KX' : K.In s'.heap := fun b o e => kept0 b o (fun hbu => by
        obtain ⟨p, hp, ep⟩ := List.mem_map.mp hbu
        rw [← ep, nTb p hp] at e
        cases e) (hKi b o e)
      obtain ⟨as, rd0⟩ := Dw.reads (R := R) (cl := cl) hok' KX' d0 v u q r'
      refine ⟨u, as, rfl, rd0, ⟨fun b o e => ?_, fun b o e => ?_⟩, os, brs⟩
      · by_cases hbu : b ∈ cs.map (·.2)
        · obtain ⟨p, hp, ep⟩ := List.mem_map.mp hbu
          obtain ⟨more, hm⟩ := grew p hp
          rw [← ep] at e ⊢
          rw [hTb p hp] at e
          cases e
          exact .inr (.inl ⟨((C p hp).tab (hTb p hp)).isCodeTable, rfl, #[], more, rfl, by rw [Array.empty_append]; exact hm⟩)
        · exact .inl (kept0 b o hbu e)
      · by_cases hbu : b ∈ cs.map (·.2)
        · obtain ⟨p, hp, ep⟩ := List.mem_map.mp hbu
          obtain ⟨more, hm⟩ := grew p hp
          rw [← ep]
          exact ⟨_, hm⟩
        · exact ⟨o, kept0 b o hbu e⟩
/-- the goal that k_headS leaves (case hc): as L2.walk_spec, with the tables of the defs named in xs (they make lambdas) -/
theorem walk_specTs {r : OpenSpec} {k : Nat} {q : Program} {loose : List Str} {XP : (Str → Option Value) → Heap → Prop} {YP : World → Heap → Prop} {d : DefRec} {K : Params → PySem.W.Frag} {CX : CXT} {ps : List Str} {x : Str} {dx : DefRec} {sp : PySem.W.Frag → Addr → Sp}
    (hwell : r.wellSaid = true) (hnd : d.params.defaults = []) (hln : r.args.length = ps.length) (hr : Room k callerA) (hrec : (recsOf q).find? (fun e => e.name == x) = some dx)
    (hY : ∀ (w : World) (h : Heap), YP w h → (K w.params).In h) (hnt : ∀ w : World, PySem.W.noTabs (K w.params) = true)
    (F : ∀ (w : World) (mg : Str → Option Value) (fa : Addr) (h : Heap), YP w h → (K w.params).In h → h.Ns mainGlobals mg → mg d.name = some (.ref fa) → ∀ (a c P : Addr) (o : Obj) (fd : FuncData), mg x = some (.ref a) → h.get? a = some o → o.data = .func fd → fd.code = .ref c →
      ∃ fd : FuncData, (∀ (s : Shared) (us : List Value), us.length = ps.length → BindsTo s fd ⟨us, .nil⟩ (ps.zip us)) ∧
        ∀ base : Heap, (K w.params).In base → base.Ns mainGlobals mg → TabB base mg c P → FnOk r.prog w (K w.params) mg base CX k fa fd ps (sp (K w.params) P))
    (hsp : ∀ (K : PySem.W.Frag) (P : Addr) (H : Hp) (xs : List V) (a : Codec.denoteAll r.args), H P = some (.tbl #[]) → Codec.withinAll r.args a = true → Codec.app r.args r.asked a = true → DwAll K H xs (Codec.encAll r.args a) →
      sp K P xs H (fun v H' => Dw K H' v (r.ret.enc (Codec.app r.args r.f a))) fun _ _ _ => False)
    (hEx : ∀ (H : Hp) (s : Shared) (e : Value) (s' : Shared), CX [] H s (fun _ _ _ => False) e s' → False) :
    PySem.W.WalkOS q loose XP YP r d [] (fun (f : Value) (vs : List Value) => PySem.call f vs) := by
  intro w s₀ s₁ mg mbn G Y fa o pm cd doc dV kV hov hd hcd hD hmg hg args vals as pre0 lay0 rd0 hwel hlo
  obtain ⟨a, e1, e2⟩ := PySem.W.os_pre_some pre0
  obtain ⟨e3, hwi⟩ := Codec.encAll_of_decAll r.args args a e1; subst e3
  have hKi := hY w _ Y
  obtain ⟨ax, ox, fx, c, P, t1, t2, t3, t4, t5, t6⟩ := G.T.tab dx (List.mem_of_find?_eq_some hrec)
  have hn : dx.name = x := beq_iff_eq.mp (List.find?_some (p := fun e : DefRec => e.name == x) hrec)
  rw [hn] at t1
  obtain ⟨fd, hbu, hF⟩ := F w mg fa _ Y hKi G.T.g hmg ax c P ox fx t1 t2 t3 t4
  have hP : s₁.heap.get? P = some { cls := .none, data := .fields #[] } := t6.2
  have neP : (K w.params).lookup P = none := by
    cases e : (K w.params).lookup P with
    | none => rfl
    | some o =>
      have e2 := hKi P o e
      rw [hP] at e2
      cases e2
      have h2 := List.all_eq_true.mp (hnt w) (P, _) (PySem.W.mem_of_lookupK e); exact absurd (show false = true from h2) Bool.false_ne_true
  refine PySem.W.enter_call (codeAny_mono (spec_callTs (R := []) (cl := classAt s₀.heap) (cs := [(c, P)]) (d0 := r.ret.enc (Codec.app r.args r.f a)) hKi G.T.g G.T.b G.T.builtins G.T.nolimit hg (fun p hp => by rw [List.mem_singleton.mp hp]; exact hP) (fun p hp => by rw [List.mem_singleton.mp hp]; exact neP)
    (fun p hp => by rw [List.mem_singleton.mp hp]; exact PySem.W.CodeHd.of t5 t6) G.T.bmain hwel (pl_encAll _ _) (layable_weight lay0) hr (fun base h1 h2 h3 => hF base h1 h2 (h3 (c, P) (List.mem_singleton.mpr rfl))) hbu (by rw [encAll_len]; exact hln)
    (fun H xs hH hS => hsp (K w.params) P H xs a (hH (c, P) (List.mem_singleton.mpr rfl)) hwi e2 hS) fun H e s' => hEx H s₁ e s') fun r' s' hq => ?_)
  obtain ⟨u, as', rfl, h1, h2, h3, h4⟩ := hq; exact ⟨.inl ⟨u, _, as', rfl, fun _ => rfl, h1, (OpenSpec.post_iff hwell hwi _ _).mpr rfl, fun z => Bool.noConfusion (show false = true from z)⟩, h2, h3, h4⟩
end TQ
end
section
set_option Elab.async false
set_option linter.all false
set_option maxRecDepth 100000
set_option maxHeartbeats 4100000
namespace TQ
open L2 PyProof.Rows PySem PySem.Spec
/-! ### rows as tuples, as keys; the dict of the nodes' numbers -/
def tr (l : Diag.Row) : List V := l.map fun b => V.int (b2i b)
def kr (l : Diag.Row) : List Key := l.map fun b => Sum.inl (b2i b)
theorem tr_len (l : Diag.Row) : (tr l).length = l.length := by simp [tr]
theorem kr_tr (l : Diag.Row) : (kr l).map kV = tr l := by
  unfold kr tr
  rw [List.map_map]
  rfl
theorem b2i_inj {a b : Bool} (h : b2i a = b2i b) : a = b := by cases a <;> cases b <;> first | rfl | (cases h)
theorem kr_inj {l m : Diag.Row} (h : kr l = kr m) : l = m := by
  unfold kr at h
  exact List.map_inj_right (f := fun b => (Sum.inl (b2i b) : Key)) (fun a b e => b2i_inj (Sum.inl.inj e)) |>.mp h
def ndAt (i : Nat) (ns : List Diag.Row) : List (List Key × V) := (ns.zipIdx i).map fun x => (kr x.1, V.int (x.2 : Nat))
def nd (ns : List Diag.Row) : List (List Key × V) := ndAt 0 ns
theorem ndAt_val (t : Diag.Row) : ∀ (ns : List Diag.Row) (i : Nat), valV (ndAt i ns) (kr t) = if t ∈ ns then some (V.int ((i + ns.idxOf t : Nat) : Int)) else none
  | [], i => by simp [ndAt, valV]
  | x :: ns, i => by
    have e : ndAt i (x :: ns) = (kr x, V.int (i : Nat)) :: ndAt (i + 1) ns := by simp [ndAt]
    rw [e]
    by_cases c : x = t
    · subst c
      rw [valV_pos rfl, if_pos (List.mem_cons_self ..)]
      simp
    · rw [valV_neg (fun z => c (kr_inj z)), ndAt_val t ns (i + 1)]
      have c' : ¬ t = x := fun z => c z.symm
      simp only [List.mem_cons, c', false_or]
      by_cases m : t ∈ ns
      · rw [if_pos m, if_pos m, List.idxOf_cons]
        have : (x == t) = false := by simpa using c
        rw [this]
        simp only [cond_false]
        congr 2
        omega
      · rw [if_neg m, if_neg m]
theorem nd_in {t : Diag.Row} {ns : List Diag.Row} (m : t ∈ ns) : valV (nd ns) (kr t) = some (V.int ((ns.idxOf t : Nat) : Int)) := by
  rw [nd, ndAt_val, if_pos m, Nat.zero_add]
theorem nd_out {t : Diag.Row} {ns : List Diag.Row} (m : t ∉ ns) : valV (nd ns) (kr t) = none := by
  rw [nd, ndAt_val, if_neg m]
theorem nd_len (ns : List Diag.Row) : (nd ns).length = ns.length := by simp [nd, ndAt]
theorem nd_put {t : Diag.Row} {ns : List Diag.Row} (m : t ∉ ns) : putK (nd ns) (kr t) (V.int ((ns.length : Nat) : Int)) = nd (ns ++ [t]) := by
  unfold putK
  rw [valV_any, nd_out m]
  simp [nd, ndAt, List.zipIdx_append]
theorem nd_at {ns : List Diag.Row} {i : Nat} {k : List Key} {v : V} (h : (nd ns)[i]? = some (k, v)) : ∃ t, ns[i]? = some t ∧ k = kr t := by
  unfold nd ndAt at h
  rw [List.getElem?_map, List.getElem?_zipIdx] at h
  cases e : ns[i]? with
  | none => rw [e] at h; exact nomatch h
  | some t =>
    rw [e] at h
    simp at h
    exact ⟨t, rfl, h.1.symm⟩
/-! ### rows told apart -/
def dr (l : Diag.Row) : List PyData := l.map fun b => PyData.int (b2i b)
theorem dp_row {K : PySem.W.Frag} {H : Hp} : ∀ l : Diag.Row, DpAll K H (tr l) (dr l)
  | [] => .nil
  | b :: l => .cons (.int _) (dp_row l)
theorem eqv_rows : ∀ l m : Diag.Row, PyData.eqvAll (dr l) (dr m) = decide (l = m)
  | [], [] => rfl
  | [], _ :: _ => rfl
  | _ :: _, [] => rfl
  | a :: l, b :: m => by
    show (PyData.eqv (.int (b2i a)) (.int (b2i b)) && PyData.eqvAll (dr l) (dr m)) = _
    rw [eqv_rows l m]
    have : PyData.eqv (.int (b2i a)) (.int (b2i b)) = decide (a = b) := by cases a <;> cases b <;> rfl
    rw [this]
    by_cases h1 : a = b <;> by_cases h2 : l = m <;> simp [h1, h2]
theorem lay_row : ∀ l : Diag.Row, PyData.canLayAll0 (dr l) = true ∧ PyData.depthAll (dr l) = 0
  | [] => ⟨rfl, rfl⟩
  | b :: l => by
    obtain ⟨h1, h2⟩ := lay_row l
    refine ⟨?_, ?_⟩
    · show (PyData.canLay0 (.int (b2i b)) && PyData.canLayAll0 (dr l)) = true
      rw [h1]
      rfl
    · show max (PyData.depth (.int (b2i b))) (PyData.depthAll (dr l)) = 0
      rw [h2]
      rfl
theorem shaped_row (l : Diag.Row) : SeqAt.shaped (.tuple (dr l)) = true := by
  obtain ⟨h1, h2⟩ := lay_row l
  unfold SeqAt.shaped
  have e1 : PyData.canLay0 (.tuple (dr l)) = true := by
    rw [PyData.canLay0]
    exact h1
  have e2 : PyData.depth (.tuple (dr l)) = 1 := by
    rw [PyData.depth, h2]
  rw [e1, e2]
  rfl
/-! ### half -/
def hz (z : Bool) (l : Diag.Row) : Diag.Row := if z = true then Diag.high l else Diag.low l
theorem hz_len {l : Diag.Row} {k : Nat} (z : Bool) (h : l.length = 2 ^ (k + 1)) : (hz z l).length = 2 ^ k := by
  cases z
  · exact low_len h
  · exact high_len h
theorem cut_lo {l : Diag.Row} {k : Nat} (h : l.length = 2 ^ (k + 1)) : cutV (tr l) none (some (((tr l).length : Int) / 2)) = tr (Diag.low l) ∧ ¬ (HT.sIx (tr l).length 0 none = 0 ∧ HT.sIx (tr l).length (tr l).length (some (((tr l).length : Int) / 2)) = (tr l).length) := by
  have e : ((tr l).length : Int) / 2 = ((l.length / 2 : Nat) : Int) := by rw [tr_len]; rfl
  have p : 1 ≤ 2 ^ k := Nat.one_le_two_pow
  have h2 : l.length = 2 * 2 ^ k := by rw [h, Nat.pow_succ, Nat.mul_comm]
  unfold cutV
  rw [e, HT.sIx_nat, HT.sIx_none, tr_len, Nat.min_eq_left (Nat.div_le_self _ _)]
  refine ⟨?_, ?_⟩
  · rw [List.drop_zero, Nat.sub_zero]
    unfold tr Diag.low
    rw [List.map_take]
  · rintro ⟨_, z⟩
    omega
theorem cut_hi {l : Diag.Row} {k : Nat} (h : l.length = 2 ^ (k + 1)) : cutV (tr l) (some (((tr l).length : Int) / 2)) none = tr (Diag.high l) ∧ ¬ (HT.sIx (tr l).length 0 (some (((tr l).length : Int) / 2)) = 0 ∧ HT.sIx (tr l).length (tr l).length none = (tr l).length) := by
  have e : ((tr l).length : Int) / 2 = ((l.length / 2 : Nat) : Int) := by rw [tr_len]; rfl
  have p : 1 ≤ 2 ^ k := Nat.one_le_two_pow
  have h2 : l.length = 2 * 2 ^ k := by rw [h, Nat.pow_succ, Nat.mul_comm]
  unfold cutV
  rw [e, HT.sIx_nat, HT.sIx_none, tr_len, Nat.min_eq_left (Nat.div_le_self _ _)]
  refine ⟨?_, ?_⟩
  · rw [List.take_of_length_le (by rw [List.length_drop, tr_len]; exact Nat.le_refl _)]
    unfold tr Diag.high
    rw [List.map_drop]
  · rintro ⟨z, _⟩
    omega
/-- a tuple of such a row is handed back, all else stands -/
def newR (H : Hp) (l : Diag.Row) (Q : VK) : Prop := ∀ H' p, Same H H' → H' p = some (.tup (tr l)) → Q (.ref p) H'
def spHalf : Sp := fun vs H Q _ => ∃ (a : Addr) (l : Diag.Row) (k : Nat) (z : Bool), vs = [.ref a, .int (b2i z)] ∧ H a = some (.tup (tr l)) ∧ l.length = 2 ^ (k + 1) ∧ newR H (hz z l) Q
section
variable {base : Heap} {mg : Str → Option Value} {K : PySem.W.Frag} {P : Program} {w : World}
theorem sc_half : FnScope ["part", "said", "middle"] ["part", "said"] (defScope s_half) := ⟨rfl, rfl, rfl, by decide +kernel, rfl, by decide +kernel, by decide +kernel⟩
theorem ok_half (D : IsDef K mg "half" s_half ["part", "said"]) (mL : mg "len" = none) : DefOk P w K mg base 1 "half" spHalf := by
  refine D.ok sc_half (fun vs H Q E h => ?_) (fun fa cdv A outer s H vs Q E hr h => ?_)
  · obtain ⟨a, l, k, z, rfl, _⟩ := h
    rfl
  · obtain ⟨a, l, k, z, rfl, ha, hl, q⟩ := h
    have ndp := sc_half.nd
    refine ⟨_, pss_cons (ps_set (i := 2) ndp rfl (Or.inl rfl) (pe_op op_fdiv (pe_callB call_len_seq (by rfl) mL PySem.boot_len (pa_cons (pv 0) pa_nil)) pe_int))
      (pss_cons (ps_if (pt_cmpR op_eq (pv 1) pe_int (nomark _)) (pss_one (ps_ret (pe_slice sl_tup (pv 0) (po_some (pv 2)) po_none))) pss_nil)
      (pss_one (ps_ret (pe_slice sl_tup (pv 0) po_none (po_some (pv 2)))))), ?_⟩
    refine ⟨_, rfl, a, _, rfl, .inr (SqT.of ha), _, _, rfl, rfl, ⟨by decide, by decide⟩, ?_⟩
    refine ⟨_, rfl, rfl, _, rfl, ?_⟩; cases z
    · obtain ⟨c1, c2⟩ := cut_lo hl
      refine iteF ⟨_, rfl, _, rfl, _, rfl, a, _, rfl, SqT.of ha, c2, fun p hp => ?_⟩
      refine q _ p (same_upd hp) ?_
      rw [upd_same, c1]
      rfl
    · obtain ⟨c1, c2⟩ := cut_hi hl
      refine iteT ⟨_, rfl, _, rfl, _, rfl, a, _, rfl, SqT.of ha, c2, fun p hp => ?_⟩
      refine q _ p (same_upd hp) ?_
      rw [upd_same, c1]
      rfl
/-! ### shortened, gone_on -/
def spShort : Sp := fun vs H Q _ => ∃ (a : Addr) (l : Diag.Row) (k : Nat), vs = [.ref a] ∧ H a = some (.tup (tr l)) ∧ l.length = 2 ^ k ∧ k ≤ 10 ∧ newR H (Diag.top Diag.VARS l) Q
theorem sc_shortened : FnScope ["part"] ["part"] (defScope s_shortened) := ⟨rfl, rfl, rfl, by decide +kernel, rfl, by decide +kernel, by decide +kernel⟩
theorem gt_one {l : Diag.Row} {k : Nat} (h : l.length = 2 ^ k) : decide ((1 : Int) < ((tr l).length : Nat)) = decide (1 ≤ k) := by
  rw [tr_len, h]
  cases k with
  | zero => rfl
  | succ k =>
    have : 2 ≤ 2 ^ (k + 1) := by
      have := Nat.pow_le_pow_right (n := 2) (by decide) (show 1 ≤ k + 1 by omega)
      omega
    rw [decide_eq_true (show (1 : Int) < ((2 ^ (k + 1) : Nat) : Int) by omega), decide_eq_true (show 1 ≤ k + 1 by omega)]
theorem ok_shortened (D : IsDef K mg "shortened" s_shortened ["part"]) (mL : mg "len" = none) (dH : DefOk P w K mg base 1 "half" spHalf) : DefOk P w K mg base 2 "shortened" spShort := by
  refine D.ok sc_shortened (fun vs H Q E h => ?_) (fun fa cdv A outer s H vs Q E hr h => ?_)
  · obtain ⟨a, l, k, rfl, _⟩ := h
    rfl
  · obtain ⟨a, l, k, rfl, ha, hl, hk, q⟩ := h
    have ndp := sc_shortened.nd
    refine ⟨_, pss_cons (ps_while PassesOwn.never (pw_and (pt_cmpR op_gt (pe_callB call_len_seq (by rfl) mL PySem.boot_len (pa_cons (pv 0) pa_nil)) pe_int (nomark _))
        (pw_and1 (pt_cmpR (op_eqD hr.units) (pe_cl dH hr (by rfl) (pa_cons (pv 0) (pa_cons pe_int pa_nil))) (pe_cl dH hr (by rfl) (pa_cons (pv 0) (pa_cons pe_int pa_nil))) (nomark _)))).pt
        (pss_one (ps_set (i := 0) ndp rfl (Or.inl rfl) (pe_cl dH hr rfl (pa_cons (pv 0) (pa_cons pe_int pa_nil))))))
      (pss_one (ps_ret (pv 0))), ?_⟩
    refine ⟨fun m σ H2 => ∃ (p : Addr) (l' : Diag.Row) (j : Nat), σ = [some (.ref p)] ∧ Same H H2 ∧ H2 p = some (.tup (tr l')) ∧ l'.length = 2 ^ j ∧ j ≤ 10 ∧ Diag.top Diag.VARS l' = Diag.top Diag.VARS l ∧ m = l'.length,
      ⟨_, a, l, k, rfl, Same.refl _, ha, hl, hk, rfl, rfl⟩, ?_⟩
    rintro m σ H2 ⟨p, l', j, rfl, s2, hp, hl', hj, ht, rfl⟩
    refine ⟨_, rfl, p, _, rfl, .inr (SqT.of hp), _, _, rfl, rfl, _, rfl, ?_⟩
    rw [gt_one hl']
    cases j with
    | zero =>
      refine iteF (iteF ⟨_, rfl, q H2 p s2 ?_⟩)
      rw [← ht]
      have t0 : Diag.top Diag.VARS l' = l' := Tpd.top (j := 0) ⟨by omega, hl', fun z => absurd z (by decide)⟩
      rw [t0]
      exact hp
    | succ j =>
      rw [decide_eq_true (show 1 ≤ j + 1 by omega)]
      refine iteT ?_
      refine ⟨_, rfl, p, l', j, false, rfl, hp, hl', fun H3 p3 s3 e3 => ?_⟩
      refine ⟨_, rfl, p, l', j, true, rfl, s3 _ _ hp, hl', fun H4 p4 s4 e4 => ?_⟩
      refine ⟨.tuple (dr (Diag.low l')), .tuple (dr (Diag.high l')), .tup (SqT.of (s4 _ _ e3)) (dp_row _), .tup (SqT.of e4) (dp_row _), shaped_row _, shaped_row _, _, rfl, ?_⟩
      have ev : PyData.eqv (.tuple (dr (Diag.low l'))) (.tuple (dr (Diag.high l'))) = decide (Diag.low l' = Diag.high l') := by
        rw [PyData.eqv]
        exact eqv_rows _ _
      rw [ev]
      have sx := (s2.trans s3).trans s4
      by_cases c : Diag.low l' = Diag.high l'
      · rw [decide_eq_true c]
        refine iteT ⟨_, fun σ' H' z => z, ?_⟩
        refine ⟨_, rfl, p, l', j, false, rfl, s4 _ _ (s3 _ _ hp), hl', fun H5 p5 s5 e5 => ?_⟩
        refine ⟨_, ?_, p5, Diag.low l', j, rfl, sx.trans s5, e5, low_len hl', by omega, ?_, rfl⟩
        · rw [low_len hl', hl', Nat.pow_succ]
          have : 1 ≤ 2 ^ j := Nat.one_le_two_pow
          omega
        · rw [← ht]
          conv => rhs; unfold Diag.top
          show _ = if (Diag.low l' == Diag.high l') = true then _ else _
          rw [if_pos (by simpa using c)]
          exact top_fuel _ _ j _ (low_len hl') (by show j ≤ 10; omega) (by show j ≤ 9; omega)
      · rw [decide_eq_false c]
        refine iteF ⟨_, rfl, q H4 p sx ?_⟩
        rw [← ht]
        have t0 : Diag.top Diag.VARS l' = l' := Tpd.top (j := j + 1) ⟨hj, hl', fun _ => c⟩
        rw [t0]
        exact s4 _ _ (s3 _ _ hp)
def spGone : Sp := fun vs H Q _ => ∃ (a : Addr) (l : Diag.Row) (k : Nat) (z : Bool), vs = [.ref a, .int (b2i z)] ∧ H a = some (.tup (tr l)) ∧ l.length = 2 ^ (k + 1) ∧ k ≤ 9 ∧ newR H (Diag.top Diag.VARS (hz z l)) Q
theorem sc_gone_on : FnScope ["part", "said"] ["part", "said"] (defScope s_gone_on) := ⟨rfl, rfl, rfl, by decide +kernel, rfl, by decide +kernel, by decide +kernel⟩
theorem ok_gone_on (D : IsDef K mg "gone_on" s_gone_on ["part", "said"]) (dH : DefOk P w K mg base 1 "half" spHalf) (dS : DefOk P w K mg base 2 "shortened" spShort) : DefOk P w K mg base 3 "gone_on" spGone := by
  refine D.ok sc_gone_on (fun vs H Q E h => ?_) (fun fa cdv A outer s H vs Q E hr h => ?_)
  · obtain ⟨a, l, k, z, rfl, _⟩ := h
    rfl
  · obtain ⟨a, l, k, z, rfl, ha, hl, hk, q⟩ := h
    refine ⟨_, pss_one (ps_ret (pe_cl dS hr rfl (pa_cons (pe_cl dH (hr.mono (by decide)) rfl (pa_cons (pv 0) (pa_cons (pv 1) pa_nil))) pa_nil))), ?_⟩
    refine ⟨_, rfl, _, rfl, a, l, k, z, rfl, ha, hl, fun H1 p1 s1 e1 => ?_⟩
    refine ⟨p1, hz z l, k, rfl, e1, hz_len z hl, by omega, fun H2 p2 s2 e2 => ?_⟩
    exact q H2 p2 (s1.trans s2) e2
end
end TQ
end
section
set_option Elab.async false
set_option linter.all false
set_option maxRecDepth 100000
set_option maxHeartbeats 4100000
namespace TQ
open L2 PyProof.Rows PySem PySem.Spec
def nv (l : List Nat) : List V := l.map fun n => V.int ((n : Nat) : Int)
theorem nv_len (l : List Nat) : (nv l).length = l.length := by simp [nv]
theorem nv_at {l : List Nat} {i n : Nat} (h : l[i]? = some n) : (nv l)[i]? = some (.int ((n : Nat) : Int)) := by
  unfold nv
  rw [List.getElem?_map, h]
  rfl
theorem of_nv {l : List Nat} {i : Nat} {x : V} (h : (nv l)[i]? = some x) : ∃ n, l[i]? = some n ∧ x = .int ((n : Nat) : Int) := by
  unfold nv at h
  rw [List.getElem?_map] at h
  cases e : l[i]? with
  | none => rw [e] at h; exact nomatch h
  | some n =>
    rw [e] at h
    exact ⟨n, rfl, (Option.some.inj h).symm⟩
/-! ### range(a, b), a below 2 ^ 63 -/
theorem small_one63 {a b : Int} (ha : 0 ≤ a) (ha' : a < 2 ^ 63) (hb : 0 ≤ b) (hb' : b < 2 ^ 62) : Builtin.Range.small a b 1 = true := by
  unfold Builtin.Range.small
  rw [rangeSize_one]; simp only [Builtin.Range.rangeFitsLong, Bool.and_eq_true, Bool.or_eq_true, decide_eq_true_eq, beq_iff_eq, show (1 : Int) > 0 by decide, if_true]
  split <;> omega
theorem range_it63 {X : Cx} {tg : Expr} {pn : List (Addr × Obj)} {σ : L2.St} {H : Hp} {s : Shared} {R : It → Hp → Prop} {E : Value → Shared → Prop} {beg lim : Int} {t u v : Tok} {tk : Nat} (Iv : Inv X pn σ H s) (g1 : 0 ≤ beg) (g2 : beg < 2 ^ 63) (g3 : 0 ≤ lim) (g4 : lim < 2 ^ 62)
    (hq : R (Itr beg (lim - beg).toNat) H) : wpAny (model X.prog X.w) X.A (pyIter (.ref s.heap.objs.size)) (PIE X pn σ tg R) E { s with heap := s.heap.push { cls := .type "range", data := .fields #[.int beg t, .int lim u, .int 1 v] }, toks := tk } := by
  refine wpAny_pyIter_range (IsRange.new ..) (small_one63 g1 g2 g3 g4) ?_
  have Iw : Inv X pn σ H { s with heap := s.heap.push { cls := .type "range", data := .fields #[.int beg t, .int lim u, .int 1 v] }, toks := tk } := Iv.kept fun b o hx => Heap.get?_push_of_some _ hx
  refine ⟨(s.heap.push { cls := .type "range", data := .fields #[.int beg t, .int lim u, .int 1 v] }).objs.size, [(s.heap.push { cls := .type "range", data := .fields #[.int beg t, .int lim u, .int 1 v] }).objs.size], _, _, H, rfl,
    Iw.kept (t' := tk) fun b o hx => Heap.get?_push_of_some _ hx, turn_range _ beg (lim - beg).toNat, ?_, fun b hm => ?_, hq⟩
  · have b1 : beg + ((0 : Nat) : Int) * 1 = beg := by simp
    have b2 : (((lim - beg).toNat : Nat) : Int) - ((0 : Nat) : Int) = Builtin.Range.rangeSize beg lim 1 := by rw [rangeSize_one]; split <;> omega
    show IsRangeIter _ _ (beg + ((0 : Nat) : Int) * 1) ((((lim - beg).toNat : Nat) : Int) - ((0 : Nat) : Int)) 1
    rw [b1, b2]; exact Heap.get?_push_size _ rfl
  · have hx : b = (s.heap.push { cls := .type "range", data := .fields #[.int beg t, .int lim u, .int 1 v] }).objs.size := by simpa using hm
    subst hx
    exact Iw.fpOk (Nat.le_refl _) (Iw.hok.fresh (Nat.le_refl _))
def iRng63 (ta : TA) : TI := fun σ H R => ta σ H fun vs H1 => ∃ i j : Int, vs = [.int i, .int j] ∧ (0 ≤ i ∧ i < 2 ^ 63 ∧ 0 ≤ j ∧ j < 2 ^ 62) ∧ R (Itr i (j - i).toNat) H1
theorem pi_range63 {X : Cx} {tg : Expr} {a b : Expr} {ta : TA} {p pos : Pos} (hg : Gl X "range") (hm : X.mg "range" = none) (ha : PA X [a, b] ta) (hs : starEach [a, b] X.env = [(false, eval a X.env), (false, eval b X.env)] := by rfl) (hs2 : starEach [b] X.env = [(false, eval b X.env)] := by rfl) :
    PI X tg (.Call (.Name "range" p) [a, b] [] pos) (iRng63 ta) := by
  refine ⟨fun pn s σ H R Iv h => ?_⟩
  refine Call_ (ld_blt Iv hg hm PyProof.Rows.boot_range (PyProof.Rows.callWith_type1 (thn (ha.run pos pn s σ H _ Iv h) fun us s1 ⟨vs, H1, Iw, r1, q1⟩ => ?_) (by rw [hs, hs2]) (by rw [hs2]; rfl)))
  obtain ⟨i, j, hx, ⟨q1, q2, q3, q4⟩, hq⟩ := q1
  subst hx
  cases r1 with
  | cons r rr =>
    cases rr with
    | cons r' rr =>
      cases rr
      obtain ⟨t, rfl⟩ := r
      obtain ⟨t', rfl⟩ := r'
      exact call_range_2 (range_it63 Iw q1 q2 q3 q4 hq)
/-! ### a comprehension with a test, whose turns change nothing -/
section
variable {n : Nat} {J : It} {Y : Nat → Hp → V → Hp → Prop} {G : Hp → Prop}
theorem filt_succ (p : Nat → Bool) (f : Nat → V) (i : Nat) : ((List.range (i + 1)).filter p).map f = ((List.range i).filter p).map f ++ (if p i = true then [f i] else []) := by
  rw [List.range_succ, List.filter_append, List.map_append]
  cases h : p i <;> simp [h]
theorem filt_len (p : Nat → Bool) (f : Nat → V) (i : Nat) : (((List.range i).filter p).map f).length ≤ i := by
  rw [List.length_map]
  refine Nat.le_trans (List.length_filter_le _ _) ?_
  simp
theorem lc_filt (w : Walk J n G Y) {g : TG} {tt : TT} {te : TE} {vs : List Nat} {σ : L2.St} {H1 : Hp} {D : Addr} {Qd : Hp → Prop} (p : Nat → Bool) (f : Nat → V) (hn : n < sizeLine) (hD : H1 D = none) (hG : ∀ H, Same H1 H → G H)
    (hs : ∀ i x H H' (R : Bool → VK), i < n → Same H1 H → Y i H x H' → (∀ H4, p i = false → Same H H4 → R false .non H4) → (∀ y H4, p i = true → y = f i → Same H H4 → R true y H4) →
      g x (wipe σ vs) H' fun σ2 H2 => wipe σ2 vs = wipe σ vs ∧ tt σ2 H2 fun b H3 => if b = true then te σ2 H3 (R true) else R false .non H3)
    (hd : ∀ H, Same H1 H → H D = some (.lst (((List.range n).filter p).map f)) → Qd H) :
    ∃ W : Nat → Nat → Hp → Prop, (∃ m, W 0 m (upd H1 D (.lst []))) ∧ ∀ i m H, W i m H → (J.stop i H ∧ Qd H) ∨
      (J.go i H ∧ ∃ Nx : Hp → Prop, (∀ H', Nx H' → ∃ m', m' < m ∧ W (i + 1) m' H') ∧ ∀ x H', J.yld i H x H' → g x (wipe σ vs) H' fun σ2 H2 => wipe σ2 vs = wipe σ vs ∧ tt σ2 H2 fun b H3 => if b = true then te σ2 H3 fun y H4 => ∃ acc, H4 D = some (.lst acc) ∧ acc.length < sizeLine ∧ Nx (upd H4 D (.lst (acc ++ [y]))) else Nx H3) := by
  refine lc_it w (fun i H => Same H1 H ∧ H D = some (.lst (((List.range i).filter p).map f))) ⟨same_upd hD, upd_same⟩ (fun i H _ p => hG H p.1) (fun i x H H' hi q y => ?_) (fun H p => hd H p.1 p.2)
  refine hs i x H H' (fun b y H4 => if b = true then ∃ acc, H4 D = some (.lst acc) ∧ acc.length < sizeLine ∧ (Same H1 (upd H4 D (.lst (acc ++ [y]))) ∧ (upd H4 D (.lst (acc ++ [y]))) D = some (.lst (((List.range (i + 1)).filter p).map f))) else (Same H1 H4 ∧ H4 D = some (.lst (((List.range (i + 1)).filter p).map f)))) hi q.1 y
    (fun H4 hp s4 => iteF ⟨q.1.trans s4, ?_⟩) (fun y H4 hp hy s4 => iteT ⟨_, s4 _ _ q.2, Nat.lt_of_le_of_lt (filt_len p f i) (by omega), Same.upd' (q.1.trans s4) hD, ?_⟩)
  · rw [filt_succ, hp, s4 _ _ q.2]
    simp
  · rw [filt_succ, hp, upd_same, hy]
    simp
end
section
variable {base : Heap} {mg : Str → Option Value} {K : PySem.W.Frag} {P : Program} {w : World}
/-! put_for -/
def spPutFor (K : PySem.W.Frag) : Sp := fun vs H Q _ => ∃ (a b : Addr) (g h : Nat → Bool) (v : Nat), vs = [.ref a, .int v, .ref b] ∧ SqL K H a (tv g) ∧ SqL K H b (tv h) ∧ v ≤ 9 ∧ newL H (tv fun m => g (Diag.setVar m v (h m))) Q
theorem sc_put_for : FnScope ["function", "v", "other", "case", "said"] ["function", "v", "other"] (defScope s_put_for) := ⟨rfl, rfl, rfl, by decide +kernel, rfl, by decide +kernel, by decide +kernel⟩
theorem ok_put_for (D : IsDef K mg "put_for" s_put_for ["function", "v", "other"]) (mE : mg "enumerate" = none) (dC : DefOk P w K mg base 1 "case_with" spCaseWith) : DefOk P w K mg base 2 "put_for" (spPutFor K) := by
  refine D.ok sc_put_for (fun vs H Q E h => ?_) (fun fa cdv A outer s H vs Q E hr h => ?_)
  · obtain ⟨a, b, g, h, v, rfl, _⟩ := h
    rfl
  · obtain ⟨a, b, g, h, v, rfl, ha, hb, hv, q⟩ := h
    have nd := sc_put_for.nd
    refine ⟨_, pss_one (ps_ret (pe_lc (own := [("case", 3), ("said", 4)]) (g := gTup K 2 (gCons (gName 3) (gCons (gName 4) gNil))) (tt := tYes) rfl nd (pi_enum rfl mE (pa_cons (pv 2) pa_nil))
        (blkOk_by (N := ["function", "v", "other", "case", "said"]) (sc := defScope s_put_for) (by decide +kernel))
        (fun _ _ _ _ _ => pg_tup rfl (pgs_cons (pg_name (i := 3) nd rfl (Or.inl rfl)) (pgs_cons (pg_name (i := 4) nd rfl (Or.inl rfl)) pgs_nil))) (fun _ _ _ _ _ => pts_nil)
        (fun _ _ _ _ _ => pe_ix (show IxR _ (rIxL K) from ix_list) (pv 0) (pe_cl dC hr rfl (pa_cons (pv 3) (pa_cons (pv 1) (pa_cons (pv 4) pa_nil)))) (fun _ _ => rfl)))), ?_⟩
    refine ⟨_, rfl, b, _, rfl, hb, fun D hD => ?_⟩
    refine lc_pure (walk_enum (K := K) (a := b) (xs := tv h)) (fun m => .int (b2i (g (Diag.setVar m v (h m))))) (by rw [tv_len]; decide) hD (fun _ s => s.seq hb) (fun i x H2 H3 R hi s2 y k => ?_) (fun H2 s2 e2 => ?_)
    · rw [tv_len] at hi
      obtain ⟨T, u, z, rfl, hT, rfl, hu, hz⟩ := y
      cases hu
      have ez := (tv_at h hi).symm.trans hz
      cases ez
      refine ⟨T, _, rfl, SqT.of upd_same, rfl, _, _, rfl, _, _, rfl, ⟨rfl, ?_⟩⟩
      refine ⟨rfl, _, rfl, _, rfl, _, rfl, _, rfl, i, v, h i, rfl, hv, ?_⟩
      refine ⟨a, _, _, _, rfl, rfl, (same_upd hT).seq (s2.seq ha), atI_nat (tv_at g (setVar_lt hi (by omega))), k _ _ rfl (same_upd hT)⟩
    · refine q H2 D s2 hD ?_
      rw [e2, tv_len, tv_range (fun m => g (Diag.setVar m v (h m)))]
/-! first_yes -/
def spFirst (K : PySem.W.Frag) : Sp := fun vs H Q _ => ∃ (a : Addr) (g : Nat → Bool) (st : Nat), vs = [.ref a, .int st] ∧ SqL K H a (tv g) ∧ st < 9223372036854775808 ∧
  (∀ c, st ≤ c → c < 1024 → g c = true → (∀ d, st ≤ d → d < c → g d = false) → Q (.int ((c : Nat) : Int)) H) ∧ ((∀ c, st ≤ c → c < 1024 → g c = false) → Q .non H)
theorem sc_first_yes : FnScope ["function", "start", "case"] ["function", "start"] (defScope s_first_yes) := ⟨rfl, rfl, rfl, by decide +kernel, rfl, by decide +kernel, by decide +kernel⟩
theorem ok_first_yes {t : Tok} (D : IsDef K mg "first_yes" s_first_yes ["function", "start"]) (hC : mg "CASES" = some (.int 1024 t)) (mR : mg "range" = none) : DefOk P w K mg base 1 "first_yes" (spFirst K) := by
  refine D.ok sc_first_yes (fun vs H Q E h => ?_) (fun fa cdv A outer s H vs Q E hr h => ?_)
  · obtain ⟨a, g, st, rfl, _⟩ := h
    rfl
  · obtain ⟨a, g, st, rfl, ha, hst, q1, q2⟩ := h
    have nd := sc_first_yes.nd
    refine ⟨_, pss_cons (ps_for PassesOwn.never rfl (pi_range63 rfl mR (pa_cons (pv 1) (pa_cons (pe_glob (v := .int 1024) rfl hC ⟨_, rfl⟩) pa_nil))) (pg_name (i := 2) nd rfl (Or.inl rfl))
        (pss_one (ps_if (pt_cmpR op_eq (pe_ix ix_list (pv 0) (pv 2) (fun _ _ => rfl)) pe_int (nomark _)) (pss_one (ps_ret (pv 2))) pss_nil)))
      (pss_one (ps_ret pe_non)), ?_⟩
    refine ⟨_, rfl, _, _, rfl, ⟨by omega, by omega, by decide, by decide⟩, ?_⟩
    refine for_range (fun i σ H2 => (∃ x2, σ = [some (.ref a), some (.int (st : Nat)), x2]) ∧ H2 = H ∧ ∀ d, st ≤ d → d < st + i → g d = false) ⟨⟨_, rfl⟩, rfl, fun d h1 h2 => by omega⟩ (fun i σ H2 hi hp => ?_) (fun σ H2 hp => ?_)
    · obtain ⟨⟨x2, rfl⟩, rfl, hg⟩ := hp
      have hlt : st + i < 1024 := by omega
      have e : ((st : Nat) : Int) + (i : Nat) = ((st + i : Nat) : Int) := by omega
      refine ⟨_, rfl, _, rfl, a, _, _, _, rfl, rfl, ha, (by rw [e]; exact atI_nat (tv_at g hlt)), ?_⟩
      refine ⟨rfl, _, rfl, ?_⟩
      cases hv : g (st + i)
      · refine iteF ⟨⟨_, rfl⟩, rfl, fun d h1 h2 => ?_⟩
        rcases Nat.lt_or_ge d (st + i) with z | z
        · exact hg d h1 z
        · have : d = st + i := by omega
          rw [this]
          exact hv
      · refine iteT ⟨_, rfl, ?_⟩
        rw [e]
        exact q1 (st + i) (by omega) hlt hv hg
    · obtain ⟨_, rfl, hg⟩ := hp
      exact q2 fun c h1 h2 => hg c h1 (by omega)
theorem sc_first_outside : FnScope ["function", "other"] ["function", "other"] (defScope s_first_outside) := ⟨rfl, rfl, rfl, by decide +kernel, rfl, by decide +kernel, by decide +kernel⟩
def spOutside (K : PySem.W.Frag) : Sp := fun vs H Q _ => ∃ (a b : Addr) (f g : Nat → Bool), vs = [.ref a, .ref b] ∧ SqL K H a (tv f) ∧ SqL K H b (tv g) ∧
  (∀ H' c, Same H H' → c < 1024 → f c = true → g c = false → (∀ d, d < c → f d = true → g d = true) → Q (.int ((c : Nat) : Int)) H') ∧ (∀ H', Same H H' → (∀ c, c < 1024 → f c = true → g c = true) → Q .non H')
theorem ok_first_outside {t : Tok} (D : IsDef K mg "first_outside" s_first_outside ["function", "other"]) (hC : mg "FIRST_ALONE" = some (.int 4 t)) (dJ : DefOk P w K mg base 2 "joined" (spJoined K)) (dF : DefOk P w K mg base 1 "first_yes" (spFirst K)) :
    DefOk P w K mg base 3 "first_outside" (spOutside K) := by
  refine D.ok sc_first_outside (fun vs H Q E h => ?_) (fun fa cdv A outer s H vs Q E hr h => ?_)
  · obtain ⟨a, b, f, g, rfl, _⟩ := h
    rfl
  · obtain ⟨a, b, f, g, rfl, ha, hb, q1, q2⟩ := h
    refine ⟨_, pss_one (ps_ret (pe_cl dF (hr.mono (by decide)) rfl (pa_cons (pe_cl dJ hr rfl (pa_cons (pe_glob (v := .int 4) rfl hC ⟨_, rfl⟩) (pa_cons (pv 0) (pa_cons (pv 1) pa_nil)))) (pa_cons pe_int pa_nil)))), ?_⟩
    refine ⟨_, rfl, _, rfl, 4, a, b, f, g, rfl, ha, hb, fun H1 p1 s1 n1 e1 => ?_⟩
    have t4 : ∀ x y : Bool, (4 : Nat).testBit (2 * b2n x + b2n y) = (x && !y) := by decide
    refine ⟨p1, _, 0, rfl, SqL.of e1, by decide, fun c _ hc hv hd => ?_, fun hd => ?_⟩
    · rw [t4] at hv
      simp at hv
      refine q1 H1 c s1 hc hv.1 hv.2 fun d hdc hf => ?_
      have := hd d (Nat.zero_le _) hdc
      rw [t4, hf] at this
      simpa using this
    · refine q2 H1 s1 fun c hc hf => ?_
      have := hd c (Nat.zero_le _) hc
      rw [t4, hf] at this
      simpa using this
/-! does_matter, mattering -/
def spDoes (K : PySem.W.Frag) : Sp := fun vs H Q _ => ∃ (a : Addr) (g : Nat → Bool) (v : Nat), vs = [.ref a, .int v] ∧ SqL K H a (tv g) ∧ v ≤ 9 ∧ Q (.bl (doesM g v)) H
theorem sc_does_matter : FnScope ["function", "v", "case"] ["function", "v"] (defScope s_does_matter) := ⟨rfl, rfl, rfl, by decide +kernel, rfl, by decide +kernel, by decide +kernel⟩
theorem ok_does_matter {t : Tok} (D : IsDef K mg "does_matter" s_does_matter ["function", "v"]) (hC : mg "CASES" = some (.int 1024 t)) (mR : mg "range" = none) (dC : DefOk P w K mg base 1 "case_with" spCaseWith) : DefOk P w K mg base 2 "does_matter" (spDoes K) := by
  refine D.ok sc_does_matter (fun vs H Q E h => ?_) (fun fa cdv A outer s H vs Q E hr h => ?_)
  · obtain ⟨a, g, v, rfl, _⟩ := h
    rfl
  · obtain ⟨a, g, v, rfl, ha, hv, q⟩ := h
    have nd := sc_does_matter.nd
    refine ⟨_, pss_cons (ps_for PassesOwn.never rfl (pi_range1 rfl mR (pa_cons (pe_glob (v := .int 1024) rfl hC ⟨_, rfl⟩) pa_nil)) (pg_name (i := 2) nd rfl (Or.inl rfl))
        (pss_one (ps_if (pt_cmpR op_ne (pe_ix (show IxR _ (rIxL K) from ix_list) (pv 0) (pv 2) (fun _ _ => rfl)) (pe_ix (show IxR _ (rIxL K) from ix_list) (pv 0) (pe_cl dC hr rfl (pa_cons (pv 2) (pa_cons (pv 1) (pa_cons pe_int pa_nil)))) (fun _ _ => rfl)) (nomark _)) (pss_one (ps_ret pe_bl)) pss_nil)))
      (pss_one (ps_ret pe_bl)), ?_⟩
    refine ⟨_, rfl, by decide, by decide, ?_⟩
    refine for_range (fun i σ H2 => (∃ x2, σ = [some (.ref a), some (.int (v : Nat)), x2]) ∧ H2 = H ∧ ∀ d, d < i → g d = g (Diag.setVar d v true)) ⟨⟨_, rfl⟩, rfl, fun d h2 => by omega⟩ (fun i σ H2 hi hp => ?_) (fun σ H2 hp => ?_)
    · obtain ⟨⟨x2, rfl⟩, rfl, hg⟩ := hp
      have hi' : i < 1024 := by simpa using hi
      have e : (0 : Int) + (i : Nat) = ((i : Nat) : Int) := by omega
      rw [e]
      refine ⟨_, rfl, _, rfl, a, _, _, _, rfl, rfl, ha, atI_nat (tv_at g hi'), ?_⟩
      refine ⟨_, rfl, _, rfl, _, rfl, i, v, true, rfl, hv, a, _, _, _, rfl, rfl, ha, atI_nat (tv_at g (setVar_lt hi' (by omega))), ?_⟩
      refine ⟨rfl, _, rfl, ?_⟩
      by_cases c : g i = g (Diag.setVar i v true)
      · rw [show (!decide (V.int (b2i (g i)) = V.int (b2i (g (Diag.setVar i v true))))) = false by rw [c]; simp]
        refine iteF ⟨⟨_, rfl⟩, rfl, fun d h2 => ?_⟩
        rcases Nat.lt_or_ge d i with z | z
        · exact hg d z
        · have : d = i := by omega
          rw [this]
          exact c
      · rw [show (!decide (V.int (b2i (g i)) = V.int (b2i (g (Diag.setVar i v true))))) = true by
          have : ¬ V.int (b2i (g i)) = V.int (b2i (g (Diag.setVar i v true))) := fun z => c (by
            have := V.int.inj z
            revert this
            cases g i <;> cases g (Diag.setVar i v true) <;> simp [b2i])
          simp [this]]
        refine iteT ?_
        have : doesM g v = true := List.any_eq_true.mpr ⟨i, List.mem_range.mpr hi', by simpa using c⟩
        rw [this] at q
        exact q
    · obtain ⟨_, rfl, hg⟩ := hp
      have : doesM g v = false := by
        rw [Bool.eq_false_iff]
        intro z
        obtain ⟨m, hm, e⟩ := List.any_eq_true.mp z
        rw [← hg m (List.mem_range.mp hm)] at e
        simp at e
      rw [this] at q
      exact q
def spMattering (K : PySem.W.Frag) : Sp := fun vs H Q _ => ∃ (a : Addr) (g : Nat → Bool), vs = [.ref a] ∧ SqL K H a (tv g) ∧ newL H (nv (mattersG g)) Q
theorem sc_mattering : FnScope ["function", "v"] ["function"] (defScope s_mattering) := ⟨rfl, rfl, rfl, by decide +kernel, rfl, by decide +kernel, by decide +kernel⟩
theorem ok_mattering {t : Tok} (D : IsDef K mg "mattering" s_mattering ["function"]) (hC : mg "VARIABLES" = some (.int 10 t)) (mR : mg "range" = none) (dD : DefOk P w K mg base 2 "does_matter" (spDoes K)) : DefOk P w K mg base 3 "mattering" (spMattering K) := by
  refine D.ok sc_mattering (fun vs H Q E h => ?_) (fun fa cdv A outer s H vs Q E hr h => ?_)
  · obtain ⟨a, g, rfl, _⟩ := h
    rfl
  · obtain ⟨a, g, rfl, ha, q⟩ := h
    have nd := sc_mattering.nd
    refine ⟨_, pss_one (ps_ret (pe_lc (own := [("v", 1)]) (g := gName 1) rfl nd (pi_range1 rfl mR (pa_cons (pe_glob (v := .int 10) rfl hC ⟨_, rfl⟩) pa_nil))
      (blkOk_by (N := ["function", "v"]) (sc := defScope s_mattering) (by decide +kernel)) (fun _ _ _ _ _ => pg_name (i := 1) nd rfl (Or.inl rfl)) (fun _ _ _ _ _ => pts_one (pt_val (pe_cl dD hr rfl (pa_cons (pv 0) (pa_cons (pv 1) pa_nil)))))
      (fun _ _ _ _ _ => pv 1))), ?_⟩
    refine ⟨_, rfl, by decide, by decide, fun D hD => ?_⟩
    refine lc_filt (J := Itr 0 10) walk_range (doesM g) (fun m => .int ((m : Nat) : Int)) (by decide) hD (fun _ _ => trivial) (fun i x H1 H2 R hi s1 y k1 k2 => ?_) (fun H1 s1 e => ?_)
    · obtain ⟨rfl, hx⟩ := y
      have e0 : x = .int ((i : Nat) : Int) := by
        rw [hx]; exact congrArg V.int (by omega)
      subst e0
      refine ⟨rfl, _, rfl, _, rfl, a, g, i, rfl, s1.seq ha, by omega, _, rfl, ?_⟩
      cases hd : doesM g i
      · exact iteF (k1 _ hd (Same.refl _))
      · exact iteT ⟨_, rfl, k2 _ _ hd rfl (Same.refl _)⟩
    · exact q H1 D s1 hD e
end
end TQ
end
section
set_option Elab.async false
set_option linter.all false
set_option maxRecDepth 100000
set_option maxHeartbeats 4100000
namespace TQ
open L2 PyProof.Rows PySem PySem.Spec
section
variable {base : Heap} {mg : Str → Option Value} {K : PySem.W.Frag} {P : Program} {w : World}
/-! ### place_of, variable_of -/
def spPlace : Sp := fun vs H Q _ => ∃ (p d : Addr) (t : Diag.Row) (j : Nat) (ns : List Diag.Row), vs = [.ref p, .ref d] ∧ H p = some (.tup (tr t)) ∧ Tpd j t ∧ Rd H d (.dT (nd ns)) ∧ (j = 0 ∨ t ∈ ns) ∧ Q (.int ((refT ns t : Nat) : Int)) H
theorem sc_place_of : FnScope ["part", "numbers"] ["part", "numbers"] (defScope s_place_of) := ⟨rfl, rfl, rfl, by decide +kernel, rfl, by decide +kernel, by decide +kernel⟩
theorem ok_place_of (D : IsDef K mg "place_of" s_place_of ["part", "numbers"]) (mL : mg "len" = none) : DefOk P w K mg base 1 "place_of" spPlace := by
  refine D.ok sc_place_of (fun vs H Q E h => ?_) (fun fa cdv A outer s H vs Q E hr h => ?_)
  · obtain ⟨p, d, t, j, ns, rfl, _⟩ := h
    rfl
  · obtain ⟨p, d, t, j, ns, rfl, hp, ht, hd, hm, q⟩ := h
    have hu := hu_of hr
    refine ⟨_, pss_cons (ps_if (pt_cmpR op_eq (pe_callB call_len_seq (by rfl) mL PySem.boot_len (pa_cons (pv 0) pa_nil)) pe_int (nomark _)) (pss_one (ps_ret (pe_ix ix_tup (pv 0) pe_int (fun _ _ => rfl)))) pss_nil)
      (pss_one (ps_ret (pe_op op_add (pe_dget hu (pv 1) (pv 0) (fun _ _ => rfl)) pe_int))), ?_⟩
    refine ⟨_, rfl, p, _, rfl, .inr (SqT.of hp), rfl, _, rfl, ?_⟩
    have hl : (tr t).length = t.length := tr_len t
    rw [hl]
    cases j with
    | zero =>
      have h1 : t.length = 1 := ht.len
      rw [h1]
      match t, h1 with
      | [b], _ =>
        refine iteT ⟨_, rfl, p, _, 0, .int (b2i b), rfl, rfl, SqT.of hp, rfl, ?_⟩
        have e : ((refT ns [b] : Nat) : Int) = b2i b := by cases b <;> rfl
        rw [e] at q
        exact q
    | succ j =>
      have h2 : 2 ≤ t.length := by
        rw [ht.len]
        have := Nat.pow_le_pow_right (n := 2) (by decide) (show 1 ≤ j + 1 by omega)
        omega
      have m : t ∈ ns := hm.resolve_left (by omega)
      rw [decide_eq_false (show ¬ V.int ((t.length : Nat) : Int) = V.int 1 from fun z => by have := V.int.inj z; omega)]
      refine iteF ⟨_, rfl, _, rfl, d, .int ((ns.idxOf t : Nat) : Int), rfl, .inr ⟨nd ns, kr t, p, hd, rfl, by rw [kr_tr]; exact hp, (nd_in m).symm⟩, _, 2, rfl, rfl, ?_⟩
      have e : ((refT ns t : Nat) : Int) = ((ns.idxOf t : Nat) : Int) + 2 := by
        unfold refT
        rw [if_neg (by omega)]
        omega
      rw [e] at q
      exact q
def spVarOf (K : PySem.W.Frag) : Sp := fun vs H Q _ => ∃ (p o : Addr) (t : Diag.Row) (j : Nat) (r : List Nat), vs = [.ref p, .ref o] ∧ H p = some (.tup (tr t)) ∧ t.length = 2 ^ (j + 1) ∧ SqL K H o (nv r) ∧ j + 1 ≤ r.length ∧ Q (.int ((r.getD (r.length - (j + 1)) 0 : Nat) : Int)) H
theorem sc_variable_of : FnScope ["part", "order", "left"] ["part", "order"] (defScope s_variable_of) := ⟨rfl, rfl, rfl, by decide +kernel, rfl, by decide +kernel, by decide +kernel⟩
theorem bits_pow (j : Nat) : Builtin.Int.intBits ((2 ^ j : Nat) : Int) = j + 1 := by
  unfold Builtin.Int.intBits
  have h : ((((2 ^ j : Nat) : Int)) == 0) = false := by
    have : 1 ≤ 2 ^ j := Nat.one_le_two_pow
    rw [beq_eq_false_iff_ne]
    omega
  rw [h, if_neg (by decide), Int.natAbs_natCast, Nat.log2_two_pow]
theorem ok_variable_of (D : IsDef K mg "variable_of" s_variable_of ["part", "order"]) (mL : mg "len" = none) : DefOk P w K mg base 1 "variable_of" (spVarOf K) := by
  refine D.ok sc_variable_of (fun vs H Q E h => ?_) (fun fa cdv A outer s H vs Q E hr h => ?_)
  · obtain ⟨p, o, t, j, r, rfl, _⟩ := h
    rfl
  · obtain ⟨p, o, t, j, r, rfl, hp, ht, ho, hj, q⟩ := h
    have ndp := sc_variable_of.nd
    refine ⟨_, pss_cons (ps_set (i := 2) ndp rfl (Or.inl rfl) (pe_op op_sub (pe_bits (pe_callB call_len_seq (by rfl) mL PySem.boot_len (pa_cons (pv 0) pa_nil))) pe_int))
      (pss_one (ps_ret (pe_ix ix_list (pv 1) (pe_op op_sub (pe_callB call_len_seq (by rfl) mL PySem.boot_len (pa_cons (pv 1) pa_nil)) (pv 2)) (fun _ _ => rfl)))), ?_⟩
    refine ⟨_, rfl, p, _, rfl, .inr (SqT.of hp), _, rfl, _, 1, rfl, rfl, ?_⟩
    refine ⟨_, rfl, _, rfl, o, _, rfl, .inl ho, _, rfl, _, _, rfl, rfl, ?_⟩
    refine ⟨o, nv r, _, .int ((r.getD (r.length - (j + 1)) 0 : Nat) : Int), rfl, rfl, ho, ?_, q⟩
    have e1 : (Builtin.Int.intBits (((tr t).length : Nat) : Int) : Int) = ((j + 2 : Nat) : Int) := by
      rw [tr_len, ht, bits_pow]
    rw [e1, nv_len]
    have e2 : ((r.length : Nat) : Int) - (((j + 2 : Nat) : Int) - 1) = ((r.length - (j + 1) : Nat) : Int) := by omega
    rw [e2]
    refine atI_nat (nv_at ?_)
    rw [List.getD_eq_getElem?_getD, List.getElem?_eq_getElem (by omega)]
    rfl
/-! ### number_parts: a level for each depth -/
def spNum (n : Nat) : Sp := fun vs H Q _ => ∃ (p d : Addr) (t : Diag.Row) (j : Nat) (ns : List Diag.Row), vs = [.ref p, .ref d] ∧ H p = some (.tup (tr t)) ∧ Tpd j t ∧ j ≤ n ∧ H d = some (.dT (nd ns)) ∧ ns.length + 2 ^ j ≤ 5000 ∧
  ∀ H', (∀ b o, b ≠ d → H b = some o → H' b = some o) → H' d = some (.dT (nd (Diag.meet n ns t))) → Q .non H'
theorem sc_number_parts : FnScope ["part", "numbers"] ["part", "numbers"] (defScope s_number_parts) := ⟨rfl, rfl, rfl, by decide +kernel, rfl, by decide +kernel, by decide +kernel⟩
/-- the promise that nothing keeps to -/
def spNo : Sp := fun _ _ _ _ => False
theorem IsDef.no {x : Str} {st : Stmt} {ps : List Str} (D : IsDef K mg x st ps) (k : Nat) : DefOk P w K mg base k x spNo := by
  obtain ⟨f, fd, F, g, b⟩ := D.ex
  exact ⟨f, fd, ps, ⟨fun _ _ _ _ h => h.elim, fun _ _ _ _ _ _ _ _ _ _ _ _ _ h => h.elim⟩, g, F.kp, b⟩
def spNumR : Nat → Sp
  | 0 => spNo
  | n + 1 => spNum n
theorem ok_number_parts (D : IsDef K mg "number_parts" s_number_parts ["part", "numbers"]) (mL : mg "len" = none) (dG : DefOk P w K mg base 3 "gone_on" spGone) : ∀ n, DefOk P w K mg base (n + 3) "number_parts" (spNumR n) := by
  have big : 5000 < sizeLine := by rw [sizeLine_eq]; decide
  intro n
  induction n with
  | zero => exact IsDef.no D 3
  | succ n ih =>
    refine D.ok sc_number_parts (fun vs H Q E h => ?_) (fun fa cdv A outer s H vs Q E hr h => ?_)
    · obtain ⟨p, d, t, j, ns, rfl, _⟩ := h
      rfl
    · obtain ⟨p, d, t, j, ns, rfl, hp, ht, hj, hd, hs, q⟩ := h
      have hu := hu_of hr
      have hr3 := hr.mono (show 3 ≤ n + 3 by omega)
      refine ⟨_, pss_one (ps_if (pw_and (pt_cmpR op_gt (pe_callB call_len_seq (by rfl) mL PySem.boot_len (pa_cons (pv 0) pa_nil)) pe_int (nomark _)) (pw_and1 (pt_cmp (pc_dnotin hu (pv 0) (pv 1))))).pt
        (pss_cons (ps_dput hu (pv 1) (pv 0) (pe_callB call_len_dT (by rfl) mL PySem.boot_len (pa_cons (pv 1) pa_nil)) rfl)
        (pss_cons (ps_expr (pe_cl ih hr (by rfl) (pa_cons (pe_cl dG hr3 (by rfl) (pa_cons (pv 0) (pa_cons pe_int pa_nil))) (pa_cons (pv 1) pa_nil))))
        (pss_one (ps_expr (pe_cl ih hr (by rfl) (pa_cons (pe_cl dG hr3 (by rfl) (pa_cons (pv 0) (pa_cons pe_int pa_nil))) (pa_cons (pv 1) pa_nil))))))) pss_nil), ?_⟩
      refine ⟨_, rfl, p, _, rfl, .inr (SqT.of hp), _, _, rfl, rfl, _, rfl, ?_⟩
      rw [gt_one ht.len]
      cases j with
      | zero =>
        refine iteF (iteF ?_)
        refine q H (fun b o _ e => e) ?_
        rw [meet_one n ht]
        exact hd
      | succ j =>
        rw [decide_eq_true (show 1 ≤ j + 1 by omega)]
        obtain ⟨m, rfl⟩ : ∃ m, n = m + 1 := ⟨n - 1, by omega⟩; have hpk : H p = some (.tup ((kr t).map kV)) := by rw [kr_tr]; exact hp
        refine iteT ⟨_, rfl, _, rfl, d, _, rfl, DGet.t hd hpk, _, rfl, ?_⟩
        by_cases c : t ∈ ns
        · rw [nd_in c]
          refine iteF ?_
          refine q H (fun b o _ e => e) ?_
          rw [meet_had _ ht c]
          exact hd
        · rw [nd_out c]
          refine iteT ?_
          have hle := ht.le
          have pw : 2 ^ (j + 1) = 2 * 2 ^ j := by rw [Nat.pow_succ, Nat.mul_comm]
          have p1 : 1 ≤ 2 ^ j := Nat.one_le_two_pow
          refine ⟨_, rfl, d, nd ns, rfl, hd, ?_⟩
          refine ⟨_, rfl, _, rfl, d, _, rfl, DPut.t hd hpk (by rw [nd_len]; omega), ?_⟩
          rw [nd_len, nd_put c]
          have hdp : p ≠ d := ne_of hp hd (by intro z; cases z)
          generalize hH1 : upd H d (.dT (nd (ns ++ [t]))) = H1
          have k1 : ∀ b o, b ≠ d → H b = some o → H1 b = some o := fun b o nb e => by rw [← hH1, upd_ne nb]; exact e
          have d1 : H1 d = some (.dT (nd (ns ++ [t]))) := by rw [← hH1, upd_same]
          have hp1 : H1 p = some (.tup (tr t)) := k1 _ _ hdp hp
          obtain ⟨j1, hj1, t1⟩ := tpd_of (k := j) (low_len ht.len) (by omega)
          obtain ⟨j2, hj2, t2⟩ := tpd_of (k := j) (high_len ht.len) (by omega)
          refine ⟨_, rfl, p, t, j, false, rfl, hp1, ht.len, by omega, fun H2 p2 s2 e2 => ?_⟩
          refine ⟨_, rfl, p2, d, Diag.top Diag.VARS (Diag.low t), j1, ns ++ [t], rfl, e2, t1, by omega, s2 _ _ d1, ?_, fun H3 k3 d3 => ?_⟩
          · have : 2 ^ j1 ≤ 2 ^ j := Nat.pow_le_pow_right (by decide) hj1; rw [List.length_append, List.length_singleton]; omega
          · rw [meet_top m _ (low_len ht.len) (by omega)] at d3
            have hp3 : H3 p = some (.tup (tr t)) := k3 _ _ hdp (s2 _ _ hp1)
            refine ⟨_, rfl, p, t, j, true, rfl, hp3, ht.len, by omega, fun H4 p4 s4 e4 => ?_⟩
            refine ⟨_, rfl, p4, d, Diag.top Diag.VARS (Diag.high t), j2, _, rfl, e4, t2, by omega, s4 _ _ d3, ?_, fun H5 k5 d5 => ?_⟩
            · have h3 := meet_len m j (ns ++ [t]) (Diag.low t) (low_len ht.len) (by omega)
              have : 2 ^ j2 ≤ 2 ^ j := Nat.pow_le_pow_right (by decide) hj2
              rw [List.length_append, List.length_singleton] at h3
              omega
            · rw [meet_top m _ (high_len ht.len) (by omega)] at d5
              refine q H5 (fun b o nb e => k5 b o nb (s4 _ _ (k3 b o nb (s2 _ _ (k1 b o nb e))))) ?_
              rw [meet_new m ht c]
              exact d5
/-! ### numbered_parts -/
def spNumd : Sp := fun vs H Q _ => ∃ (p : Addr) (t : Diag.Row) (j : Nat), vs = [.ref p] ∧ H p = some (.tup (tr t)) ∧ Tpd j t ∧ ∀ H' d, Same H H' → H d = none → H' d = some (.dT (nd (Diag.meet (Diag.VARS + 1) [] t))) → Q (.ref d) H'
theorem sc_numbered_parts : FnScope ["whole", "numbers"] ["whole"] (defScope s_numbered_parts) := ⟨rfl, rfl, rfl, by decide +kernel, rfl, by decide +kernel, by decide +kernel⟩
theorem ok_numbered_parts (D : IsDef K mg "numbered_parts" s_numbered_parts ["whole"]) (dN : DefOk P w K mg base 15 "number_parts" (spNum 11)) : DefOk P w K mg base 16 "numbered_parts" spNumd := by
  refine D.ok sc_numbered_parts (fun vs H Q E h => ?_) (fun fa cdv A outer s H vs Q E hr h => ?_)
  · obtain ⟨p, t, j, rfl, _⟩ := h
    rfl
  · obtain ⟨p, t, j, rfl, hp, ht, q⟩ := h
    have ndp := sc_numbered_parts.nd
    refine ⟨_, pss_cons (ps_set (i := 1) ndp rfl (Or.inl rfl) pe_dnewT) (pss_cons (ps_expr (pe_cl dN hr rfl (pa_cons (pv 0) (pa_cons (pv 1) pa_nil)))) (pss_one (ps_ret (pv 1)))), ?_⟩
    intro d hd
    have hle := ht.le
    refine ⟨_, rfl, _, rfl, p, d, t, j, [], rfl, (same_upd hd) _ _ hp, ht, by omega, upd_same, ?_, fun H2 k2 d2 => ?_⟩
    · have : 2 ^ j ≤ 2 ^ 10 := Nat.pow_le_pow_right (by decide) hle
      simp only [List.length_nil]
      omega
    · refine ⟨_, rfl, q H2 d (fun b o e => ?_) hd d2⟩
      have nb : b ≠ d := ne_of_none e hd
      exact k2 b o nb ((same_upd hd) _ _ e)
end
end TQ
end
section
set_option Elab.async false
set_option linter.all false
set_option maxRecDepth 100000
set_option maxHeartbeats 4100000
namespace TQ
open L2 PyProof.Rows PySem PySem.Spec
/-! ### nodes_told -/
def nodeOf (r : List Nat) (ns : List Diag.Row) (t : Diag.Row) : List Nat := [r.getD (Diag.levelOf t) 0, Diag.refOf ns (Diag.low t), Diag.refOf ns (Diag.high t)]
theorem nv_app (l m : List Nat) : nv (l ++ m) = nv l ++ nv m := by simp [nv]
theorem take_flat {α β : Type} (f : α → List β) {l : List α} {i : Nat} {a : α} (h : l[i]? = some a) : (l.take (i + 1)).flatMap f = (l.take i).flatMap f ++ f a := by
  rw [List.take_add_one, h]
  simp
/-- all but the objects at a and b stand -/
def But (a b : Addr) (H H' : Hp) : Prop := ∀ c u, c ≠ a → c ≠ b → H c = some u → H' c = some u
theorem But.trans {a b : Addr} {H H1 H2 : Hp} (x : But a b H H1) (y : But a b H1 H2) : But a b H H2 := fun c u h1 h2 e => y c u h1 h2 (x c u h1 h2 e)
theorem But.same {a b : Addr} {H H1 H2 : Hp} (x : But a b H H1) (y : Same H1 H2) : But a b H H2 := fun c u h1 h2 e => y c u (x c u h1 h2 e)
theorem But.seq {K : PySem.W.Frag} {a b : Addr} {H H' : Hp} {c : Addr} {xs : List V} (x : But a b H H') (ha : c ≠ a) (hb : c ≠ b) (h : SqL K H c xs) : SqL K H' c xs := by
  rcases h with (t | ⟨o, t⟩) | t
  · exact .inl (.inl (x _ _ ha hb t))
  · exact .inl (.inr ⟨o, x _ _ ha hb t⟩)
  · exact .inr t
theorem seq_ne {K : PySem.W.Frag} {H : Hp} {c d : Addr} {xs : List V} {u : HO} (h : SqL K H c xs) (hd : H d = some u) (n1 : ∀ ys, u ≠ .lst ys) (n2 : ∀ o ys, u ≠ .frz o (.lst ys)) : c ≠ d ∨ ∃ o, K.lookup c = some o := by
  rcases h with (h | ⟨o, h⟩) | ⟨o, its, n, e, _⟩
  · exact .inl (ne_of h hd (fun z => n1 _ z.symm))
  · exact .inl (ne_of h hd (fun z => n2 _ _ z.symm))
  · exact .inr ⟨o, e⟩
section
variable {base : Heap} {mg : Str → Option Value} {K : PySem.W.Frag} {P : Program} {w : World}
def spTold (K : PySem.W.Frag) : Sp := fun vs H Q _ => ∃ (d o : Addr) (ns : List Diag.Row) (r : List Nat), vs = [.ref d, .ref o] ∧ H d = some (.dT (nd ns)) ∧ SqL K H o (nv r) ∧ r.length = 10 ∧ ns.length ≤ 3000 ∧
  (∀ t ∈ ns, IsNode t ∧ Done ns (Diag.low t) ∧ Done ns (Diag.high t)) ∧ newL H (nv (ns.flatMap (nodeOf r ns))) Q
theorem done_place {ns : List Diag.Row} {l : Diag.Row} {k : Nat} (h : Done ns l) (hl : l.length = 2 ^ k) (hk : k ≤ 10) : ∃ j, Tpd j (Diag.top Diag.VARS l) ∧ (j = 0 ∨ Diag.top Diag.VARS l ∈ ns) := by
  obtain ⟨j, _, hj⟩ := tpd_of hl hk
  exact ⟨j, hj, h.elim (fun c => .inl (hj.const.mp c)) .inr⟩
theorem sc_nodes_told : FnScope ["numbers", "order", "told", "part"] ["numbers", "order"] (defScope s_nodes_told) := ⟨rfl, rfl, rfl, by decide +kernel, rfl, by decide +kernel, by decide +kernel⟩
theorem ok_nodes_told (D : IsDef K mg "nodes_told" s_nodes_told ["numbers", "order"]) (dV : DefOk P w K mg base 1 "variable_of" (spVarOf K)) (dP : DefOk P w K mg base 1 "place_of" spPlace) (dG : DefOk P w K mg base 3 "gone_on" spGone) : DefOk P w K mg base 4 "nodes_told" (spTold K) := by
  have big : 10000 < sizeLine := by rw [sizeLine_eq]; decide
  refine D.ok sc_nodes_told (fun vs H Q E h => ?_) (fun fa cdv A outer s H vs Q E hr h => ?_)
  · obtain ⟨d, o, ns, r, rfl, _⟩ := h
    rfl
  · obtain ⟨d, o, ns, r, rfl, hd, ho, hrl, hnl, hns, q⟩ := h
    have ndp := sc_nodes_told.nd
    have hr1 := hr.mono (show 1 ≤ 3 by decide)
    refine ⟨_, pss_cons (ps_set (i := 2) ndp rfl (Or.inl rfl) (pe_lst pa_nil))
      (pss_cons (ps_lock (ps_for PassesOwn.never rfl (pi_keys (pv 0)) (pg_name (i := 3) ndp rfl (Or.inl rfl))
        (pss_cons (ps_expr (pe_bm PySem.F.plainAttrs_list PySem.F.slot_list_append PySem.F.type_list_append mt_append (pv 2) (pa_cons (pe_cl dV hr1 rfl (pa_cons (pv 3) (pa_cons (pv 1) pa_nil))) pa_nil)))
        (pss_cons (ps_expr (pe_bm PySem.F.plainAttrs_list PySem.F.slot_list_append PySem.F.type_list_append mt_append (pv 2) (pa_cons (pe_cl dP hr1 rfl (pa_cons (pe_cl dG hr rfl (pa_cons (pv 3) (pa_cons pe_int pa_nil))) (pa_cons (pv 0) pa_nil))) pa_nil)))
        (pss_one (ps_expr (pe_bm PySem.F.plainAttrs_list PySem.F.slot_list_append PySem.F.type_list_append mt_append (pv 2) (pa_cons (pe_cl dP hr1 rfl (pa_cons (pe_cl dG hr rfl (pa_cons (pv 3) (pa_cons pe_int pa_nil))) (pa_cons (pv 0) pa_nil))) pa_nil))))))))
      (pss_one (ps_ret (pv 2)))), ?_⟩
    refine ⟨by show 0 ≤ sizeLine; decide, fun l hl => ?_⟩
    have hdl : d ≠ l := ne_of_none hd hl
    refine ⟨d, .dT (nd ns), by rw [upd_ne hdl]; exact hd, trivial, fun od => ?_⟩
    refine ⟨_, rfl, d, od, rfl, .inr ⟨nd ns, upd_same, ?_⟩⟩
    have oS : ∀ H2 : Hp, (∀ b u, H b = some u → b ≠ d → H2 b = some u) → SqL K H2 o (nv r) := fun H2 kp => by
      rcases ho with (h1 | ⟨ob, h1⟩) | h1
      · exact .inl (.inl (kp _ _ h1 (ne_of h1 hd (by intro z; cases z))))
      · exact .inl (.inr ⟨ob, kp _ _ h1 (ne_of h1 hd (by intro z; cases z))⟩)
      · exact .inr h1
    refine for_it walk_keysT (fun i σ H2 => (∃ x3, σ = [some (.ref d), some (.ref o), some (.ref l), x3]) ∧ (∀ b u, H b = some u → b ≠ d → H2 b = some u) ∧ H2 d = some (.frz od (.dT (nd ns))) ∧ H2 l = some (.lst (nv ((ns.take i).flatMap (nodeOf r ns)))))
      ⟨⟨_, rfl⟩, fun b u e nb => by rw [upd_ne nb, upd_ne (ne_of_none e hl)]; exact e, upd_same, by rw [upd_ne hdl.symm, upd_same]; rfl⟩ (fun i σ H2 _ hp => hp.2.2.1) (fun i x σ H2 H2' hi hp y => ?_) (fun σ H2 hp => ?_)
    · obtain ⟨⟨x3, rfl⟩, kp, hd2, hl2⟩ := hp
      obtain ⟨rfl, k, v, p, hk, rfl, hpt⟩ := y
      obtain ⟨t, ht, rfl⟩ := nd_at hk
      rw [kr_tr] at hpt
      have ho2 := oS _ kp
      have tm : t ∈ ns := List.mem_of_getElem? ht
      obtain ⟨node, dl, dh⟩ := hns t tm
      obtain ⟨j, hj, hjl, hne⟩ := node
      have htk : ((ns.take i).flatMap (nodeOf r ns)).length ≤ 9000 := by
        refine Nat.le_trans (flatMap_len _ 3 _ fun a _ => by simp [nodeOf]) ?_
        have : (ns.take i).length ≤ ns.length := by rw [List.length_take]; omega
        omega
      have step : ∀ (H3 : Hp) (x : Nat) (zs : List Nat), H3 l = some (.lst (nv zs)) → upd H3 l (.lst (nv zs ++ [V.int ((x : Nat) : Int)])) l = some (.lst (nv (zs ++ [x]))) := fun H3 x zs e => by
        rw [upd_same, nv_app]
        rfl
      -- the variable
      refine ⟨_, rfl, .inl ⟨rfl, _, SqL.of hl2⟩, ?_⟩
      refine ⟨_, rfl, _, rfl, p, o, t, j, r, rfl, hpt, hjl, ho2, by omega, ?_⟩
      refine ⟨l, _, _, rfl, rfl, hl2, by rw [nv_len]; omega, ?_⟩
      have lev : r.length - (j + 1) = Diag.levelOf t := by
        unfold Diag.levelOf
        rw [hjl, Nat.log2_two_pow, hrl]
        rfl
      rw [lev]
      generalize hH3 : upd H2' l (.lst (nv ((ns.take i).flatMap (nodeOf r ns)) ++ [V.int ((r.getD (Diag.levelOf t) 0 : Nat) : Int)])) = H3
      have l3 : H3 l = some (.lst (nv ((ns.take i).flatMap (nodeOf r ns) ++ [r.getD (Diag.levelOf t) 0]))) := by rw [← hH3]; exact step _ _ _ hl2
      have k3 : ∀ b u, b ≠ l → H2' b = some u → H3 b = some u := fun b u nb e => by rw [← hH3, upd_ne nb]; exact e
      have np : p ≠ l := ne_of hpt hl2 (by intro z; cases z)
      -- with no
      have hd3 := k3 _ _ hdl hd2
      refine ⟨_, rfl, .inl ⟨rfl, _, SqL.of l3⟩, ?_⟩
      refine ⟨_, rfl, p, t, j, false, rfl, k3 _ _ np hpt, hjl, hj, fun H4 p4 s4 e4 => ?_⟩
      obtain ⟨j1, t1, m1⟩ := done_place (k := j) dl (low_len hjl) (by omega)
      refine ⟨_, rfl, p4, d, Diag.top Diag.VARS (Diag.low t), j1, ns, rfl, e4, t1, .inr ⟨od, s4 _ _ hd3⟩, m1, ?_⟩
      rw [← refT_of (low_len hjl) (by omega)]
      have l4 := s4 _ _ l3
      refine ⟨l, _, _, rfl, rfl, l4, by rw [nv_len, List.length_append, List.length_singleton]; omega, ?_⟩
      generalize hH5 : upd H4 l (.lst (nv ((ns.take i).flatMap (nodeOf r ns) ++ [r.getD (Diag.levelOf t) 0]) ++ [V.int ((Diag.refOf ns (Diag.low t) : Nat) : Int)])) = H5
      have l5 : H5 l = some (.lst (nv ((ns.take i).flatMap (nodeOf r ns) ++ [r.getD (Diag.levelOf t) 0] ++ [Diag.refOf ns (Diag.low t)]))) := by rw [← hH5]; exact step _ _ _ l4
      have k5 : ∀ b u, b ≠ l → H3 b = some u → H5 b = some u := fun b u nb e => by rw [← hH5, upd_ne nb]; exact s4 _ _ e
      -- with yes
      have hd5 := k5 _ _ hdl hd3
      refine ⟨_, rfl, .inl ⟨rfl, _, SqL.of l5⟩, ?_⟩
      refine ⟨_, rfl, p, t, j, true, rfl, k5 _ _ np (k3 _ _ np hpt), hjl, hj, fun H6 p6 s6 e6 => ?_⟩
      obtain ⟨j2, t2, m2⟩ := done_place (k := j) dh (high_len hjl) (by omega)
      refine ⟨_, rfl, p6, d, Diag.top Diag.VARS (Diag.high t), j2, ns, rfl, e6, t2, .inr ⟨od, s6 _ _ hd5⟩, m2, ?_⟩
      rw [← refT_of (high_len hjl) (by omega)]
      have l6 := s6 _ _ l5
      refine ⟨l, _, _, rfl, rfl, l6, by rw [nv_len, List.length_append, List.length_append, List.length_singleton, List.length_singleton]; omega, ?_⟩
      generalize hH7 : upd H6 l (.lst (nv ((ns.take i).flatMap (nodeOf r ns) ++ [r.getD (Diag.levelOf t) 0] ++ [Diag.refOf ns (Diag.low t)]) ++ [V.int ((Diag.refOf ns (Diag.high t) : Nat) : Int)])) = H7
      have l7 : H7 l = some (.lst (nv ((ns.take i).flatMap (nodeOf r ns) ++ [r.getD (Diag.levelOf t) 0] ++ [Diag.refOf ns (Diag.low t)] ++ [Diag.refOf ns (Diag.high t)]))) := by rw [← hH7]; exact step _ _ _ l6
      have k7 : ∀ b u, b ≠ l → H2' b = some u → H7 b = some u := fun b u nb e => by rw [← hH7, upd_ne nb]; exact s6 _ _ (k5 b u nb (k3 b u nb e))
      refine ⟨⟨_, rfl⟩, fun b u e nb => k7 b u (ne_of_none e hl) (kp b u e nb), k7 _ _ hdl hd2, ?_⟩
      rw [l7, take_flat (nodeOf r ns) ht]
      simp [nodeOf]
    · obtain ⟨⟨x3, rfl⟩, kp, hd2, hl2⟩ := hp
      refine ⟨hd2, _, rfl, q _ l (fun b u e => ?_) hl ?_⟩
      · by_cases z : b = d
        · rw [z, upd_same]
          rw [z, hd] at e
          exact e
        · rw [upd_ne z]
          exact kp b u e z
      · rw [upd_ne hdl.symm, hl2, nd_len, List.take_length]
end
end TQ
end
section
set_option Elab.async false
set_option linter.all false
set_option maxRecDepth 100000
set_option maxHeartbeats 4100000
namespace TQ
open L2 PyProof.Rows PySem PySem.Spec
section
variable {base : Heap} {mg : Str → Option Value} {K : PySem.W.Frag} {P : Program} {w : World}
/-! ### whole_part -/
def rowBy (g : Nat → Bool) (r : List Nat) : Diag.Row := (casesOf r).map g
theorem rowBy_len (g : Nat → Bool) (r : List Nat) : (rowBy g r).length = 2 ^ r.length := by
  unfold rowBy
  rw [List.length_map, casesOf_len]
theorem nodup10 {r : List Nat} (nd : r.Nodup) (h : ∀ v ∈ r, v < 10) : r.length ≤ 10 := by
  have := isOrder_len (full_order nd h)
  unfold Diag.full at this
  rw [List.length_append] at this
  omega
def spWhole (K : PySem.W.Frag) : Sp := fun vs H Q _ => ∃ (a o : Addr) (g : Nat → Bool) (r : List Nat), vs = [.ref a, .ref o] ∧ SqL K H a (tv g) ∧ SqL K H o (nv r) ∧ r.Nodup ∧ (∀ v ∈ r, v < 10) ∧ newR H (Diag.top Diag.VARS (rowBy g r)) Q
theorem sc_whole_part : FnScope ["function", "order", "cases", "v", "case"] ["function", "order"] (defScope s_whole_part) := ⟨rfl, rfl, rfl, by decide +kernel, rfl, by decide +kernel, by decide +kernel⟩
theorem range_getD (l : List Nat) (f : Nat → V) : (List.range l.length).map (fun i => f (l.getD i 0)) = l.map f := by
  apply List.ext_getElem
  · simp
  · intro i h1 h2
    simp at h1 h2 ⊢
    simp [h2]
theorem getD_at {l : List Nat} {i : Nat} (h : i < l.length) : l[i]? = some (l.getD i 0) := by
  rw [List.getD_eq_getElem?_getD, List.getElem?_eq_getElem h]
  rfl
theorem ok_whole_part (D : IsDef K mg "whole_part" s_whole_part ["function", "order"]) (mV : mg "reversed" = none) (mT : mg "tuple" = none) (dS : DefOk P w K mg base 2 "shortened" spShort) : DefOk P w K mg base 3 "whole_part" (spWhole K) := by
  have big : 10000 < sizeLine := by rw [sizeLine_eq]; decide
  refine D.ok sc_whole_part (fun vs H Q E h => ?_) (fun fa cdv A outer s H vs Q E hr h => ?_)
  · obtain ⟨a, o, g, r, rfl, _⟩ := h
    rfl
  · obtain ⟨a, o, g, r, rfl, ha, ho, hn, hlt, q⟩ := h
    have ndp := sc_whole_part.nd
    refine ⟨_, pss_cons (ps_set (i := 2) ndp rfl (Or.inl rfl) (pe_lst (pa_cons pe_int pa_nil)))
      (pss_cons (ps_for PassesOwn.never rfl (pi_reversed (by rfl) mV (pa_cons (pv 1) pa_nil)) (pg_name (i := 3) ndp rfl (Or.inr rfl))
        (pss_one (ps_set (i := 2) ndp rfl (Or.inl rfl) (pe_op op_cat (pv 2) (pe_lc (own := [("case", 4)]) (g := gName 4) (tt := tYes) rfl ndp (pi_list (pv 2))
          (blkOk_by (N := ["function", "order", "cases", "v", "case"]) (sc := defScope s_whole_part) (by decide +kernel)) (fun _ _ _ _ _ => pg_name (i := 4) ndp rfl (Or.inl rfl)) (fun _ _ _ _ _ => pts_nil)
          (fun _ _ _ _ _ => pe_op op_add (pv 4) (pe_op op_shl pe_int (pv 3))))))))
      (pss_one (ps_ret (pe_cl dS hr rfl (pa_cons (pe_callTy call_tuple_of (by rfl) mT (by decide +kernel) (pa_cons (pe_lc (own := [("case", 4)]) (g := gName 4) (tt := tYes) rfl ndp (pi_list (pv 2))
          (blkOk_by (N := ["function", "order", "cases", "v", "case"]) (sc := defScope s_whole_part) (by decide +kernel)) (fun _ _ _ _ _ => pg_name (i := 4) ndp rfl (Or.inl rfl)) (fun _ _ _ _ _ => pts_nil)
          (fun _ _ _ _ _ => pe_ix (show IxR _ (rIxL K) from ix_list) (pv 0) (pv 4) (fun _ _ => rfl))) pa_nil)) pa_nil))))), ?_⟩
    refine ⟨by show 1 ≤ sizeLine; decide, fun c0 hc0 => ?_⟩
    refine ⟨_, rfl, o, _, rfl, (same_upd hc0).seq ho, ?_⟩
    have r10 := nodup10 hn hlt
    refine for_it (walk_rev (K := K) (a := o) (xs := nv r)) (fun i σ H2 => (∃ p x3 x4, σ = [some (.ref a), some (.ref o), some (.ref p), x3, x4] ∧ H2 p = some (.lst (nv (casesOf (r.drop (r.length - i)))))) ∧ Same H H2)
      ⟨⟨c0, _, _, rfl, ?_⟩, same_upd hc0⟩ (fun i σ H2 _ hp => hp.2.seq ho) (fun i x σ H2 H2' hi hp y => ?_) (fun σ H2 hp => ?_)
    · rw [upd_same, Nat.sub_zero, List.drop_length]
      rfl
    · obtain ⟨⟨p, x3, x4, rfl, hp⟩, s2⟩ := hp
      obtain ⟨rfl, hx⟩ := y
      rw [nv_len] at hi hx
      obtain ⟨v, hv, rfl⟩ := of_nv hx
      have vm : v ∈ r := List.mem_of_getElem? hv
      have v10 := hlt v vm
      have hdrop : r.drop (r.length - (i + 1)) = v :: r.drop (r.length - i) := by
        obtain ⟨h1, h2⟩ := List.getElem?_eq_some_iff.mp hv
        have e1 : r.length - (i + 1) = r.length - 1 - i := by omega
        rw [e1, List.drop_eq_getElem_cons h1, h2]
        congr 2
        omega
      have clen : (casesOf (r.drop (r.length - i))).length ≤ 1024 := by
        rw [casesOf_len]
        have : (r.drop (r.length - i)).length ≤ 10 := by rw [List.length_drop]; omega
        exact Nat.pow_le_pow_right (n := 2) (by decide) this
      generalize hC : casesOf (r.drop (r.length - i)) = C at hp clen
      refine ⟨_, rfl, _, rfl, p, rfl, ⟨_, SqL.of hp⟩, fun D hD => ?_⟩
      refine lc_pure (walk_list (K := K) (a := p) (xs := nv C)) (fun i => .int ((C.getD i 0 + 2 ^ v : Nat) : Int)) (by rw [nv_len]; omega) hD (fun _ s => s.seq (SqL.of hp)) (fun k x H3 H4 R hk s3 y kR => ?_) (fun H3 s3 e3 => ?_)
      · obtain ⟨rfl, hx⟩ := y
        rw [nv_len] at hk
        rw [nv_at (getD_at hk)] at hx
        cases hx
        refine ⟨rfl, _, rfl, _, rfl, 1, (v : Int), rfl, rfl, ⟨Int.natCast_nonneg _, by omega, by decide⟩, _, _, rfl, rfl, ?_⟩
        refine kR _ _ ?_ (Same.refl _)
        have e1 : (1 * 2 ^ (v : Int).toNat : Int) = ((2 ^ v : Nat) : Int) := by
          rw [Int.toNat_natCast, Int.one_mul]
          exact (Int.natCast_pow 2 v).symm
        rw [e1]; exact congrArg V.int (by omega)
      · refine ⟨p, D, _, _, rfl, rfl, s3 _ _ hp, e3, by rw [nv_len, List.length_map, List.length_range]; omega, fun p2 hp2 => ?_⟩
        refine ⟨⟨p2, _, _, rfl, ?_⟩, Same.upd (s2.trans s3) hp2⟩
        rw [upd_same, hdrop]
        show some (HO.lst _) = some (.lst (nv (casesOf (r.drop (r.length - i)) ++ (casesOf (r.drop (r.length - i))).map (· + 2 ^ v))))
        rw [hC, nv_app, nv_len]
        refine congrArg (fun l => some (HO.lst (nv C ++ l))) ?_
        rw [range_getD C fun n => V.int ((n + 2 ^ v : Nat) : Int)]
        unfold nv
        rw [List.map_map]
        rfl
    · obtain ⟨⟨p, x3, x4, rfl, hp⟩, s2⟩ := hp
      rw [nv_len, Nat.sub_self, List.drop_zero] at hp
      have clen : (casesOf r).length ≤ 1024 := by
        rw [casesOf_len]
        exact Nat.pow_le_pow_right (n := 2) (by decide) r10
      refine ⟨_, rfl, p, rfl, ⟨_, SqL.of hp⟩, fun D hD => ?_⟩
      refine lc_pure (walk_list (K := K) (a := p) (xs := nv (casesOf r))) (fun i => .int (b2i (g ((casesOf r).getD i 0)))) (by rw [nv_len]; omega) hD (fun _ s => s.seq (SqL.of hp)) (fun k x H3 H4 R hk s3 y kR => ?_) (fun H3 s3 e3 => ?_)
      · obtain ⟨rfl, hx⟩ := y
        rw [nv_len] at hk
        rw [nv_at (getD_at hk)] at hx
        cases hx
        have lt := casesOf_lt hn hlt _ (List.mem_of_getElem? (getD_at hk))
        exact ⟨rfl, _, rfl, _, rfl, a, _, _, _, rfl, rfl, (s2.trans s3).seq ha, atI_nat (tv_at g lt), kR _ _ rfl (Same.refl _)⟩
      · refine ⟨D, _, rfl, .inl ⟨SqL.of e3, fun p4 hp4 => ?_⟩⟩
        rw [nv_len, range_getD (casesOf r) fun c => V.int (b2i (g c))]
        have et : (casesOf r).map (fun c => V.int (b2i (g c))) = tr (rowBy g r) := by
          unfold tr rowBy
          rw [List.map_map]
          rfl
        rw [et]
        refine ⟨p4, rowBy g r, r.length, rfl, upd_same, rowBy_len g r, r10, fun H5 p5 s5 e5 => ?_⟩
        exact q H5 p5 ((Same.upd (s2.trans s3) hp4).trans s5) e5
/-! ### how_many_nodes -/
def cntG (g : Nat → Bool) (r : List Nat) : Nat := (Diag.meet (Diag.VARS + 1) [] (rowBy g r)).length
def spCount (K : PySem.W.Frag) : Sp := fun vs H Q _ => ∃ (a o : Addr) (g : Nat → Bool) (r : List Nat), vs = [.ref a, .ref o] ∧ SqL K H a (tv g) ∧ SqL K H o (nv r) ∧ r.Nodup ∧ (∀ v ∈ r, v < 10) ∧ ∀ H', Same H H' → Q (.int ((cntG g r : Nat) : Int)) H'
theorem sc_how_many_nodes : FnScope ["function", "order"] ["function", "order"] (defScope s_how_many_nodes) := ⟨rfl, rfl, rfl, by decide +kernel, rfl, by decide +kernel, by decide +kernel⟩
theorem ok_how_many_nodes (D : IsDef K mg "how_many_nodes" s_how_many_nodes ["function", "order"]) (mL : mg "len" = none) (dN : DefOk P w K mg base 16 "numbered_parts" spNumd) (dW : DefOk P w K mg base 3 "whole_part" (spWhole K)) : DefOk P w K mg base 17 "how_many_nodes" (spCount K) := by
  refine D.ok sc_how_many_nodes (fun vs H Q E h => ?_) (fun fa cdv A outer s H vs Q E hr h => ?_)
  · obtain ⟨a, o, g, r, rfl, _⟩ := h
    rfl
  · obtain ⟨a, o, g, r, rfl, ha, ho, hn, hlt, q⟩ := h
    have r10 := nodup10 hn hlt
    refine ⟨_, pss_one (ps_ret (pe_callB call_len_dT (by rfl) mL PySem.boot_len (pa_cons (pe_cl dN hr rfl (pa_cons (pe_cl dW (hr.mono (by decide)) rfl (pa_cons (pv 0) (pa_cons (pv 1) pa_nil))) pa_nil)) pa_nil))), ?_⟩
    refine ⟨_, rfl, _, rfl, a, o, g, r, rfl, ha, ho, hn, hlt, fun H1 p1 s1 e1 => ?_⟩
    obtain ⟨j, _, hj⟩ := tpd_of (rowBy_len g r) r10
    refine ⟨p1, _, j, rfl, e1, hj, fun H2 d s2 _ e2 => ?_⟩
    refine ⟨d, _, rfl, e2, ?_⟩
    rw [nd_len, meet_top _ _ (rowBy_len g r) r10]
    exact q H2 (s1.trans s2)
/-! ### is_order -/
def spIsOrder (K : PySem.W.Frag) : Sp := fun vs H Q _ => ∃ (a : Addr) (o : List Nat), vs = [.ref a] ∧ SqL K H a (nv o) ∧ ∀ H', Same H H' → Q (.bl (Diag.isOrder o)) H'
theorem sc_is_order : FnScope ["numbers"] ["numbers"] (defScope s_is_order) := ⟨rfl, rfl, rfl, by decide +kernel, rfl, by decide +kernel, by decide +kernel⟩
def di (l : List Int) : List PyData := l.map PyData.int
theorem dp_ints {K : PySem.W.Frag} {H : Hp} : ∀ l : List Int, DpAll K H (l.map V.int) (di l)
  | [] => .nil
  | b :: l => .cons (.int _) (dp_ints l)
theorem eqv_ints : ∀ l m : List Int, PyData.eqvAll (di l) (di m) = decide (l = m)
  | [], [] => rfl
  | [], _ :: _ => rfl
  | _ :: _, [] => rfl
  | a :: l, b :: m => by
    show (PyData.eqv (.int a) (.int b) && PyData.eqvAll (di l) (di m)) = _
    rw [eqv_ints l m]
    have : PyData.eqv (.int a) (.int b) = decide (a = b) := by
      show (a == b) = decide (a = b)
      by_cases e : a = b <;> simp [e]
    rw [this]
    by_cases h1 : a = b <;> by_cases h2 : l = m <;> simp [h1, h2]
theorem lay_ints : ∀ l : List Int, PyData.canLayAll0 (di l) = true ∧ PyData.depthAll (di l) = 0
  | [] => ⟨rfl, rfl⟩
  | b :: l => by
    obtain ⟨h1, h2⟩ := lay_ints l
    refine ⟨?_, ?_⟩
    · show (PyData.canLay0 (.int b) && PyData.canLayAll0 (di l)) = true
      rw [h1]
      rfl
    · show max (PyData.depth (.int b)) (PyData.depthAll (di l)) = 0
      rw [h2]
      rfl
theorem shaped_ints (l : List Int) : SeqAt.shaped (.list (di l)) = true := by
  obtain ⟨h1, h2⟩ := lay_ints l
  unfold SeqAt.shaped
  have e1 : PyData.canLay0 (.list (di l)) = true := by
    rw [PyData.canLay0]
    exact h1
  have e2 : PyData.depth (.list (di l)) = 1 := by
    rw [PyData.depth, h2]
  rw [e1, e2]
  rfl
def ten : List Int := (List.range 10).map Int.ofNat
theorem sorted_order {o : List Nat} {ns : List Int} (p : ns.Perm (o.map Int.ofNat)) (h : ns.Pairwise (· ≤ ·)) : decide (ns = ten) = Diag.isOrder o := by
  rw [Bool.eq_iff_iff, decide_eq_true_eq, isOrder_iff]
  constructor
  · intro e
    rw [e] at p
    have p2 := p.map Int.toNat
    rw [show ten.map Int.toNat = List.range 10 by decide, List.map_map] at p2
    have : (o.map (Int.toNat ∘ Int.ofNat)) = o := (List.map_congr_left fun x _ => (rfl : (Int.toNat ∘ Int.ofNat) x = id x)).trans (List.map_id o)
    rw [this] at p2
    exact p2
  · intro e
    have p2 : ten.Perm (o.map Int.ofNat) := e.map Int.ofNat
    exact List.Perm.eq_of_pairwise (le := (· ≤ ·)) (fun a b _ _ h1 h2 => Int.le_antisymm h1 h2) h (by decide) (p.trans p2.symm)
theorem ok_is_order {t : Tok} (D : IsDef K mg "is_order" s_is_order ["numbers"]) (mS : mg "sorted" = none) (mLi : mg "list" = none) (mR : mg "range" = none) (hC : mg "VARIABLES" = some (.int 10 t)) : DefOk P w K mg base 1 "is_order" (spIsOrder K) := by
  refine D.ok sc_is_order (fun vs H Q E h => ?_) (fun fa cdv A outer s H vs Q E hr h => ?_)
  · obtain ⟨a, o, rfl, _⟩ := h
    rfl
  · obtain ⟨a, o, rfl, ha, q⟩ := h
    refine ⟨_, pss_one (ps_ret (pe_cmpR (op_eqD hr.units) (pe_callB cr_sortedI (by rfl) mS (by decide +kernel) (pa_cons (pv 0) pa_nil)) (pe_listRg (by rfl) (by rfl) mLi (prg_1 (by rfl) mR (pe_glob (v := .int 10) (by rfl) hC ⟨_, rfl⟩))) (nomark _))), ?_⟩
    have e0 : nv o = (o.map Int.ofNat).map V.int := by
      unfold nv
      rw [List.map_map]
      rfl
    rw [e0] at ha
    refine ⟨_, rfl, a, _, rfl, ha, fun ns p perm srt hp => ?_⟩
    refine ⟨10, rfl, ⟨by decide, by decide, by decide, by decide, by decide⟩, fun p2 hp2 => ?_⟩
    have er : rgV 0 10 = ten.map V.int := by decide
    rw [er]
    refine ⟨.list (di ns), .list (di ten), .lst (SqL.of ((same_upd hp2) _ _ upd_same)) (dp_ints _), .lst (SqL.of upd_same) (dp_ints _), shaped_ints _, shaped_ints _, ?_⟩
    have ev : PyData.eqv (.list (di ns)) (.list (di ten)) = decide (ns = ten) := by
      rw [PyData.eqv]
      exact eqv_ints _ _
    rw [ev, sorted_order perm srt]
    exact q _ (Same.upd (same_upd hp) hp2)
end
end TQ
end
section
set_option Elab.async false
set_option linter.all false
set_option maxRecDepth 100000
set_option maxHeartbeats 4100000
namespace TQ
open L2 PyProof.Rows PySem PySem.Spec
/-! ### lists of orders -/
/-- at p a list of lists of numbers -/
def OrdsAt (H : Hp) (p : Addr) (L : List (List Nat)) : Prop := ∃ as : List Addr, H p = some (.lst (as.map V.ref)) ∧ as.length = L.length ∧ ∀ (j : Nat) (r : List Nat), L[j]? = some r → ∃ q, as[j]? = some q ∧ H q = some (.lst (nv r))
theorem OrdsAt.same {H H' : Hp} {p : Addr} {L : List (List Nat)} (o : OrdsAt H p L) (s : Same H H') : OrdsAt H' p L := by
  obtain ⟨as, h1, h2, h3⟩ := o
  refine ⟨as, s _ _ h1, h2, fun j r hj => ?_⟩
  obtain ⟨q, e1, e2⟩ := h3 j r hj
  exact ⟨q, e1, s _ _ e2⟩
theorem OrdsAt.nil {H : Hp} {p : Addr} (h : H p = some (.lst [])) : OrdsAt H p [] := ⟨[], h, rfl, fun j r hj => by simp at hj⟩
theorem refs_ints {as : List Addr} {r : List Nat} (h : as.map V.ref = nv r) : as = [] ∧ r = [] := by
  cases as with
  | nil =>
    cases r with
    | nil => exact ⟨rfl, rfl⟩
    | cons n r => cases h
  | cons a as =>
    cases r with
    | nil => cases h
    | cons n r =>
      have := (List.cons.inj h).1
      cases this
/-- lists of one more hang on at the end -/
theorem OrdsAt.ext {H : Hp} {p d : Addr} {L M : List (List Nat)} (o : OrdsAt H p L) (m : OrdsAt H d M) (hM : ∀ r ∈ M, r ≠ []) : ∃ xs zs, H p = some (.lst xs) ∧ H d = some (.lst zs) ∧ xs.length = L.length ∧ zs.length = M.length ∧ OrdsAt (upd H p (.lst (xs ++ zs))) p (L ++ M) := by
  obtain ⟨as, h1, h2, h3⟩ := o
  obtain ⟨bs, g1, g2, g3⟩ := m
  refine ⟨_, _, h1, g1, by rw [List.length_map, h2], by rw [List.length_map, g2], as ++ bs, by rw [upd_same, List.map_append], by rw [List.length_append, List.length_append, h2, g2], fun j r hj => ?_⟩
  rcases Nat.lt_or_ge j L.length with c | c
  · rw [List.getElem?_append_left c] at hj
    obtain ⟨q, e1, e2⟩ := h3 j r hj
    refine ⟨q, by rw [List.getElem?_append_left (by omega)]; exact e1, ?_⟩
    rw [upd_ne]
    · exact e2
    · intro z
      rw [z, h1] at e2
      have := refs_ints (HO.lst.inj (Option.some.inj e2))
      rw [this.1] at e1
      simp at e1
  · rw [List.getElem?_append_right c] at hj
    obtain ⟨q, e1, e2⟩ := g3 _ r hj
    refine ⟨q, by rw [List.getElem?_append_right (by omega), h2]; exact e1, ?_⟩
    rw [upd_ne]
    · exact e2
    · intro z
      rw [z, h1] at e2
      exact hM r (List.mem_of_getElem? hj) (refs_ints (HO.lst.inj (Option.some.inj e2))).2
/-- one list more -/
theorem OrdsAt.push {H : Hp} {p q : Addr} {L : List (List Nat)} {r : List Nat} (o : OrdsAt H p L) (hq : H q = some (.lst (nv r))) (hr : r ≠ []) : ∃ xs, H p = some (.lst xs) ∧ xs.length = L.length ∧ OrdsAt (upd H p (.lst (xs ++ [V.ref q]))) p (L ++ [r]) := by
  obtain ⟨as, h1, h2, h3⟩ := o
  refine ⟨_, h1, by rw [List.length_map, h2], as ++ [q], by rw [upd_same, List.map_append]; rfl, by rw [List.length_append, List.length_append, h2]; rfl, fun j s hj => ?_⟩
  rcases Nat.lt_or_ge j L.length with c | c
  · rw [List.getElem?_append_left c] at hj
    obtain ⟨q', e1, e2⟩ := h3 j s hj
    refine ⟨q', by rw [List.getElem?_append_left (by omega)]; exact e1, ?_⟩
    rw [upd_ne]
    · exact e2
    · intro z
      rw [z, h1] at e2
      have := refs_ints (HO.lst.inj (Option.some.inj e2))
      rw [this.1] at e1
      simp at e1
  · rw [List.getElem?_append_right c] at hj
    have e : j - L.length = 0 ∧ r = s := by
      cases h : j - L.length with
      | zero => rw [h] at hj; exact ⟨rfl, Option.some.inj hj⟩
      | succ n => rw [h] at hj; simp at hj
    refine ⟨q, by rw [List.getElem?_append_right (by omega), h2, e.1]; rfl, ?_⟩
    rw [← e.2, upd_ne]
    · exact hq
    · intro z
      rw [z, h1] at hq
      exact hr (refs_ints (HO.lst.inj (Option.some.inj hq))).2
theorem arr_len : ∀ (k : Nat) (l : List Nat), ∀ r ∈ Diag.arranged k l, r.length = k
  | 0, l, r, h => by
    have : r = [] := by simpa [Diag.arranged] using h
    rw [this]
    rfl
  | k + 1, l, r, h => by
    obtain ⟨x, hx, h2⟩ := List.mem_flatMap.mp h
    obtain ⟨q, hq, rfl⟩ := List.mem_map.mp h2
    rw [List.length_cons, arr_len k _ q hq]
def extO (vars o : List Nat) : List (List Nat) := (vars.filter fun v => !o.contains v).map fun v => o ++ [v]
theorem extO_ne {vars o r : List Nat} (h : r ∈ extO vars o) : r ≠ [] := by
  obtain ⟨v, _, rfl⟩ := List.mem_map.mp h
  simp
theorem inV_nv (v : Nat) : ∀ r : List Nat, inV (.int ((v : Nat) : Int)) (nv r) = r.contains v
  | [] => rfl
  | x :: r => by
    show (eqV (.int ((x : Nat) : Int)) (.int ((v : Nat) : Int)) || inV (.int ((v : Nat) : Int)) (nv r)) = _
    rw [inV_nv v r, List.contains_cons]
    congr 1
    show (((x : Nat) : Int) == ((v : Nat) : Int)) = (v == x)
    by_cases e : x = v
    · subst e; simp
    · have h1 : ¬ ((x : Nat) : Int) = ((v : Nat) : Int) := by omega
      have h2 : ¬ v = x := fun z => e z.symm
      rw [beq_eq_false_iff_ne.mpr h1, beq_eq_false_iff_ne.mpr h2]
theorem flat_nv : ∀ r : List Nat, (nv r).all flatV = true
  | [] => rfl
  | x :: r => by
    show (flatV (.int _) && (nv r).all flatV) = true
    rw [flat_nv r]
    rfl
section
variable {base : Heap} {mg : Str → Option Value} {K : PySem.W.Frag} {P : Program} {w : World}
def spOrders (K : PySem.W.Frag) : Sp := fun vs H Q _ => ∃ (a : Addr) (vars : List Nat), vs = [.ref a] ∧ SqL K H a (nv vars) ∧ vars.length ≤ 5 ∧ ∀ H' p, Same H H' → OrdsAt H' p (Diag.arranged vars.length vars) → Q (.ref p) H'
theorem sc_orders_of : FnScope ["variables", "orders", "place", "longer", "order", "v"] ["variables"] (defScope s_orders_of) := ⟨rfl, rfl, rfl, by decide +kernel, rfl, by decide +kernel, by decide +kernel⟩
theorem pow5 {n k : Nat} (hn : n ≤ 5) (hk : k ≤ 5) : n ^ k ≤ 3125 := by
  have h1 : n ^ k ≤ 5 ^ k := Nat.pow_le_pow_left hn k
  have h2 : 5 ^ k ≤ 5 ^ 5 := Nat.pow_le_pow_right (by decide) hk
  exact Nat.le_trans h1 h2
theorem ok_orders_of (D : IsDef K mg "orders_of" s_orders_of ["variables"]) (mL : mg "len" = none) (mR : mg "range" = none) : DefOk P w K mg base 1 "orders_of" (spOrders K) := by
  have big : 100000 < sizeLine := by rw [sizeLine_eq]; decide
  refine D.ok sc_orders_of (fun vs H Q E h => ?_) (fun fa cdv A outer s H vs Q E hr h => ?_)
  · obtain ⟨a, vars, rfl, _⟩ := h
    rfl
  · obtain ⟨a, vars, rfl, ha, h5, q⟩ := h
    have ndp := sc_orders_of.nd
    refine ⟨_, pss_cons (ps_set (i := 1) ndp rfl (Or.inl rfl) (pe_lst (pa_cons (pe_lst pa_nil) pa_nil)))
      (pss_cons (ps_for PassesOwn.never rfl (pi_range1 rfl mR (pa_cons (pe_callB call_len_seq (by rfl) mL PySem.boot_len (pa_cons (pv 0) pa_nil)) pa_nil)) (pg_name (i := 2) ndp rfl (Or.inl rfl))
        (pss_cons (ps_set (i := 3) ndp rfl (Or.inl rfl) (pe_lst pa_nil))
        (pss_cons (ps_for PassesOwn.never rfl (pi_list (pv 1)) (pg_name (i := 4) ndp rfl (Or.inr rfl))
          (pss_one (ps_expr (pe_bm PySem.F.plainAttrs_list PySem.F.slot_list_extend PySem.F.type_list_extend mt_extend (pv 3) (pa_cons
            (pe_lc (own := [("v", 5)]) (g := gName 5) rfl ndp (pi_list (pv 0)) (blkOk_by (N := ["variables", "orders", "place", "longer", "order", "v"]) (sc := defScope s_orders_of) (by decide +kernel))
              (fun _ _ _ _ _ => pg_name (i := 5) ndp rfl (Or.inl rfl)) (fun _ _ _ _ _ => pts_one (pt_cmpR (show OpR _ _ (rIn K true) from op_notIn_seq) (pv 5) (pv 4) (by rfl))) (fun _ _ _ _ _ => pe_op op_cat (pv 4) (pe_lst (pa_cons (pv 5) pa_nil)))) pa_nil)))))
        (pss_one (ps_set (i := 1) ndp rfl (Or.inl rfl) (pv 3)))))) (pss_one (ps_ret (pv 1)))), ?_⟩
    refine ⟨by show 0 ≤ sizeLine; decide, fun q0 hq0 => ?_⟩
    refine ⟨by show 1 ≤ sizeLine; decide, fun p0 hp0 => ?_⟩
    have s0 : Same H (upd (upd H q0 (.lst [])) p0 (.lst [.ref q0])) := Same.upd (same_upd hq0) hp0
    have hqp : q0 ≠ p0 := ne_of_none upd_same hp0
    have o0 : OrdsAt (upd (upd H q0 (.lst [])) p0 (.lst [.ref q0])) p0 (Diag.arranged 0 vars) := by
      refine ⟨[q0], upd_same, rfl, fun j r hj => ?_⟩
      cases j with
      | zero =>
        cases hj
        exact ⟨q0, rfl, by rw [upd_ne hqp, upd_same]; rfl⟩
      | succ j => simp [Diag.arranged] at hj
    have hlen : ((nv vars).length : Int) = ((vars.length : Nat) : Int) := by rw [nv_len]
    refine ⟨_, rfl, a, _, rfl, .inl (s0.seq ha), _, rfl, by rw [hlen]; omega, by rw [hlen]; omega, ?_⟩
    rw [hlen, Int.toNat_natCast]
    refine for_range (fun i σ H2 => (∃ po x2 x3 x4 x5, σ = [some (.ref a), some (.ref po), x2, x3, x4, x5] ∧ OrdsAt H2 po (Diag.arranged i vars)) ∧ Same H H2) ⟨⟨p0, _, _, _, _, rfl, o0⟩, s0⟩ (fun i σ H2 hi hp => ?_) (fun σ H2 hp => ?_)
    · obtain ⟨⟨po, x2, x3, x4, x5, rfl, oa⟩, s2⟩ := hp
      refine ⟨by show 0 ≤ sizeLine; decide, fun lg hlg => ?_⟩
      obtain ⟨as, ha1, ha2, ha3⟩ := oa
      have i1 : (upd H2 lg (.lst [])) po = some (.lst (as.map V.ref)) := (same_upd hlg) _ _ ha1
      have cnt := arranged_count vars i
      have cb := pow5 h5 (show i ≤ 5 by omega)
      refine ⟨_, rfl, po, rfl, ⟨_, SqL.of i1⟩, ?_⟩
      refine for_it (walk_list (K := K) (a := po) (xs := as.map V.ref)) (fun j σ H3 => (∃ y2 y4 y5, σ = [some (.ref a), some (.ref po), y2, some (.ref lg), y4, y5]) ∧ Same H2 H3 ∧ OrdsAt H3 lg (((Diag.arranged i vars).take j).flatMap (extO vars)))
        ⟨⟨_, _, _, rfl⟩, same_upd hlg, OrdsAt.nil upd_same⟩ (fun j σ H3 _ hp => hp.2.1.seq (SqL.of ha1)) (fun j x σ H3 H3' hj hp y => ?_) (fun σ H3 hp => ?_)
      · obtain ⟨⟨y2, y4, y5, rfl⟩, s3, oL⟩ := hp
        obtain ⟨rfl, hx⟩ := y
        rw [List.length_map] at hj
        obtain ⟨r, hr1⟩ : ∃ r, (Diag.arranged i vars)[j]? = some r := ⟨_, List.getElem?_eq_getElem (by omega)⟩
        obtain ⟨qj, hq1, hq2⟩ := ha3 j r hr1
        rw [List.getElem?_map, hq1] at hx
        cases hx
        obtain ⟨xsL, hL, _⟩ : ∃ xs, H3' lg = some (.lst xs) ∧ True := by
          obtain ⟨as', h1, _⟩ := oL
          exact ⟨_, h1, trivial⟩
        refine ⟨_, rfl, .inl ⟨rfl, _, SqL.of hL⟩, ?_⟩
        have hvar : SqL K H3' a (nv vars) := s3.seq (s2.seq ha)
        refine ⟨_, rfl, a, rfl, ⟨_, hvar⟩, fun D hD => ?_⟩
        refine lc_it (walk_list (K := K) (a := a) (xs := nv vars)) (fun k H4 => Same H3' H4 ∧ OrdsAt H4 D (extO (vars.take k) r)) ⟨same_upd hD, OrdsAt.nil upd_same⟩ (fun k H4 _ p => p.1.seq hvar) (fun k x H4 H4' hk p y => ?_) (fun H4 p => ?_)
        · obtain ⟨s4, oD⟩ := p
          obtain ⟨rfl, hx⟩ := y
          rw [nv_len] at hk
          obtain ⟨v, hv, rfl⟩ := of_nv hx
          have hr4 : H4' qj = some (.lst (nv r)) := s4 _ _ (s3 _ _ hq2)
          refine ⟨rfl, _, rfl, _, rfl, qj, nv r, rfl, .inl (SqL.of hr4), rfl, flat_nv r, _, rfl, ?_⟩
          rw [inV_nv]
          have tk : vars.take (k + 1) = vars.take k ++ [v] := by rw [List.take_add_one, hv]; rfl
          cases hc : r.contains v
          · refine iteT ?_
            refine ⟨_, rfl, _, rfl, by show 1 ≤ sizeLine; decide, fun pv1 hpv => ?_⟩
            refine ⟨qj, pv1, _, _, rfl, rfl, (same_upd hpv) _ _ hr4, upd_same, ?_, fun p5 hp5 => ?_⟩
            · have rl := arr_len i vars r (List.mem_of_getElem? hr1)
              rw [nv_len]
              show r.length + 1 ≤ sizeLine
              omega
            · have s5 : Same H4' (upd (upd H4' pv1 (.lst [.int ((v : Nat) : Int)])) p5 (.lst (nv r ++ [.int ((v : Nat) : Int)]))) := Same.upd (same_upd hpv) hp5
              have e5 : (upd (upd H4' pv1 (.lst [.int ((v : Nat) : Int)])) p5 (.lst (nv r ++ [.int ((v : Nat) : Int)]))) p5 = some (.lst (nv (r ++ [v]))) := by rw [upd_same, nv_app]; rfl
              obtain ⟨xs, h1, h2, h3⟩ := (oD.same s5).push e5 (by simp)
              refine ⟨xs, h1, ?_, Same.upd' (s4.trans s5) hD, ?_⟩
              · rw [h2]
                have : (extO (vars.take k) r).length ≤ 5 := by
                  unfold extO
                  rw [List.length_map]
                  refine Nat.le_trans (List.length_filter_le _ _) ?_
                  rw [List.length_take]
                  omega
                omega
              · have : extO (vars.take (k + 1)) r = extO (vars.take k) r ++ [r ++ [v]] := by
                  unfold extO
                  have hm : v ∉ r := by simpa using hc
                  rw [tk, List.filter_append, List.map_append]
                  simp [hm]
                rw [this]
                exact h3
          · refine iteF ⟨s4, ?_⟩
            have : extO (vars.take (k + 1)) r = extO (vars.take k) r := by
              unfold extO
              have hm : v ∈ r := by simpa using hc
              rw [tk, List.filter_append, List.map_append]
              simp [hm]
            rw [this]
            exact oD
        · obtain ⟨s4, oD⟩ := p
          rw [nv_len, List.take_length] at oD
          obtain ⟨xs, zs, h1, h2, h3, h4, h5'⟩ := (oL.same s4).ext oD fun r hr => extO_ne hr
          refine ⟨lg, D, xs, zs, rfl, rfl, h1, h2, ?_, ?_⟩
          · have l1 : (((Diag.arranged i vars).take j).flatMap (extO vars)).length ≤ 3125 * 5 := by
              refine Nat.le_trans (flatMap_len _ 5 _ fun o _ => ?_) ?_
              · unfold extO
                rw [List.length_map]
                exact Nat.le_trans (List.length_filter_le _ _) h5
              · refine Nat.mul_le_mul_right 5 ?_
                rw [List.length_take]
                omega
            have l2 : (extO vars r).length ≤ 5 := by
              unfold extO
              rw [List.length_map]
              exact Nat.le_trans (List.length_filter_le _ _) h5
            rw [h3, h4]
            omega
          · refine ⟨⟨_, _, _, rfl⟩, Same.upd' (s3.trans s4) hlg, ?_⟩
            rw [take_flat (extO vars) hr1]
            exact h5'
      · obtain ⟨⟨y2, y4, y5, rfl⟩, s3, oL⟩ := hp
        rw [List.length_map, ha2, List.take_length] at oL
        have : (Diag.arranged i vars).flatMap (extO vars) = Diag.arranged (i + 1) vars := (arranged_step i vars).symm
        rw [this] at oL
        exact ⟨_, rfl, ⟨lg, _, _, _, _, rfl, oL⟩, s2.trans s3⟩
    · obtain ⟨⟨po, x2, x3, x4, x5, rfl, oa⟩, s2⟩ := hp
      exact ⟨_, rfl, q H2 po s2 oa⟩
end
end TQ
end
section
set_option Elab.async false
set_option linter.all false
set_option maxRecDepth 100000
set_option maxHeartbeats 4100000
namespace TQ
open NdefX LamX L2 PyProof.Rows PySem PySem.Spec
/-- where the def of the name x stands, its code object at c -/
structure IsDefC (K : PySem.W.Frag) (mg : Str → Option Value) (x : Str) (st : Stmt) (ps : List Str) (c : Addr) : Prop where
  ex : ∃ (f : Addr) (oc kV doc pm ct : Value) (od an : Option Addr) (osl : Array (Option Value)), K.lookup f = some ⟨oc, od, .func (PySem.W.fnOf x x (defArgs st) (defBody st) (defScope st) .none kV doc pm an (.ref c) ct), osl⟩ ∧ PySem.W.codeIn K (.ref c) x = true ∧
    PySem.W.keepIn K (.ref f) = true ∧ mg x = some (.ref f) ∧ Binds K (PySem.W.fnOf x x (defArgs st) (defBody st) (defScope st) .none kV doc pm an (.ref c) ct) ps []
/-- .. what the head says of its code object, beside where it stands -/
theorem IsDef.withCode {K : PySem.W.Frag} {mg : Str → Option Value} {h : Heap} {x : Str} {st : Stmt} {ps : List Str} {a c : Addr} {o : Obj} {fd : FuncData} (KX : K.In h) (D : IsDef K mg x st ps) (hm : mg x = some (.ref a)) (ho : h.get? a = some o) (hd : o.data = .func fd) (hc : fd.code = .ref c) :
    IsDefC K mg x st ps c := by
  obtain ⟨f, fd', F, g, b⟩ := D.ex
  rw [hm] at g
  cases g
  obtain ⟨oc, od, kV, doc, pm, an, cdv, ct, osl, rfl, lku, hcd⟩ := F.ex
  have lk := lku
  have e := KX _ _ lk
  rw [ho] at e
  cases e
  cases hd
  have e2 : cdv = .ref c := hc
  subst e2
  exact ⟨a, oc, kV, doc, pm, ct, od, an, osl, lk, hcd, F.kp, hm, b⟩
section
variable {base : Heap} {mg : Str → Option Value} {K : PySem.W.Frag} {P : Program} {w : World}
theorem IsDefC.ok {x : Str} {st : Stmt} {N ps : List Str} {k : Nat} {c : Addr} {sp : Sp} (D : IsDefC K mg x st ps c) (S : FnScope N ps (defScope st)) (len : ∀ vs H Q E, sp vs H Q E → vs.length = ps.length)
    (hbody : ∀ (f : Addr) (A : Around) (outer : List Env) (s : Shared) (H : Hp) (vs : List V) (Q : VK) (E : XK), Room k (A.deeper (envOfC x (defScope st) s.heap.objs.size f (.ref c))) → sp vs H Q E →
      ∃ t, PSs (cxOf L2.CX0 P w K mg base N x (defScope st) f (.ref c) A outer s H E).nox (defBody st) t ∧ t { nx := fun _ H' => Q .non H', rt := Q } (start N vs) H) : DefOk P w K mg base (k + 1) x sp := by
  obtain ⟨f, oc, kV, doc, pm, ct, od, an, osl, lk, hcd, kp, g, b⟩ := D.ex
  refine ⟨f, _, ps, fn_of lk hcd S len fun A outer s H vs Q E hr hsp => ?_, g, kp, b⟩
  obtain ⟨t, h, q⟩ := hbody f A outer s H vs Q E hr hsp
  exact ⟨t, h.nox, q⟩
def lamQ : Str := ("best_order" : Str) ++ (".<locals>." : Str) ++ ("<lambda>" : Str)
/-- the best order: the first of all orders with the fewest nodes -/
def spBest (K : PySem.W.Frag) (Pt : Addr) : Sp := fun vs H Q _ => ∃ (a o : Addr) (g : Nat → Bool) (vars : List Nat), vs = [.ref a, .ref o] ∧ SqL K H a (tv g) ∧ SqL K H o (nv vars) ∧ vars.Nodup ∧ (∀ v ∈ vars, v < 10) ∧ vars.length ≤ 5 ∧ Tabs [(Pt, lamQ)] H ∧
  ∀ (H' : Hp) (p : Addr) (i : Nat) (r : List Nat), ExtN H H' → Tabs [(Pt, lamQ)] H' → (Diag.arranged vars.length vars)[i]? = some r →
    (∀ (j : Nat) (y : List Nat), (Diag.arranged vars.length vars)[j]? = some y → cntG g r ≤ cntG g y ∧ (j < i → cntG g r < cntG g y)) → H' p = some (.lst (nv r)) → Q (.ref p) H'
theorem sc_best_order : FnScope ["function", "variables"] ["function", "variables"] (defScope s_best_order) := ⟨rfl, rfl, rfl, by decide +kernel, rfl, by decide +kernel, by decide +kernel⟩
theorem ok_best_order {c Pt : Addr} (D : IsDefC K mg "best_order" s_best_order ["function", "variables"] c) (TB : TabB base mg c Pt) (mM : mg "min" = none) (dO : DefOk P w K mg base 1 "orders_of" (spOrders K)) (dC : DefOk P w K mg base 17 "how_many_nodes" (spCount K)) :
    DefOk P w K mg base 20 "best_order" (spBest K Pt) := by
  refine D.ok sc_best_order (fun vs H Q E h => ?_) (fun fa A outer s H vs Q E hr h => ?_)
  · obtain ⟨a, o, g, vars, rfl, _⟩ := h
    rfl
  · obtain ⟨a, o, g, vars, rfl, ha, ho, hn, hlt, h5, hT, q⟩ := h
    refine ⟨_, pss_one (ps_ret (pe_minLam (T := [(Pt, lamQ)]) (N := ["order", "function"]) (fr := ["function"]) (a := "order") (js := [0]) (k := 17) rfl rfl rfl (by rfl) mM (pe_cl dO (hr.mono (by decide)) (by rfl) (pa_cons (pv 1) pa_nil)) TB rfl
      (List.mem_singleton.mpr rfl) (fun p hp _ => by rw [List.mem_singleton.mp hp]; rfl) hr (nscope_by (by decide +kernel)) rfl (ndef_free (sc := defScope s_best_order) (fr := ["function"]) (by decide +kernel)) (ndef_fr (sc := defScope s_best_order) (by decide +kernel)) rfl (fun _ _ _ _ _ _ => rfl)
      (fun q cl c' f A outer s H hr2 => pe_cl dC hr2 (by rfl) (pa_cons (pv 1) (pa_cons (pv 0) pa_nil))))), ?_⟩
    refine ⟨_, rfl, o, vars, rfl, ho, h5, fun H1 p1 s1 oa => ?_⟩
    obtain ⟨as, ha1, ha2, ha3⟩ := oa
    have hne : 0 < (Diag.arranged vars.length vars).length := by
      obtain ⟨r, hr⟩ := arranged_head vars hn
      rw [hr]
      simp
    have hT1 : Tabs [(Pt, lamQ)] H1 := hT.ext s1
    refine ⟨p1, as.map V.ref, rfl, by rw [List.length_map]; omega, hT1, fun H2 eN hT2 => ?_⟩
    have keep : ∀ (b : Addr) (xs : List V), H1 b = some (.lst xs) → H2 b = some (.lst xs) := fun b xs e => eN _ _ e (fun ps z => by cases z)
    have ha2' : SqL K H2 a (tv g) := by
      rcases s1.seq ha with (h1 | ⟨ob, h1⟩) | h1
      · exact .inl (.inl (keep _ _ h1))
      · exact .inl (.inr ⟨ob, eN _ _ h1 (fun ps z => by cases z)⟩)
      · exact .inr h1
    refine ⟨fun i => ((cntG g ((Diag.arranged vars.length vars).getD i []) : Nat) : Int), SqL.of (keep _ _ ha1), fun i x H3 hx s3 => ?_, fun i x H3 hx hb s3 => ?_⟩
    · obtain ⟨r, hr1⟩ : ∃ r, (Diag.arranged vars.length vars)[i]? = some r := ⟨_, List.getElem?_eq_getElem (by
        have := (List.getElem?_eq_some_iff.mp hx).1
        rw [List.length_map] at this
        omega)⟩
      obtain ⟨qi, hq1, hq2⟩ := ha3 i r hr1
      rw [List.getElem?_map, hq1] at hx
      cases hx
      obtain ⟨rn, rs, _⟩ := arranged_mem _ _ hn r (List.mem_of_getElem? hr1)
      refine ⟨_, rfl, _, rfl, a, qi, g, r, rfl, s3.seq ha2', SqL.of (s3 _ _ (keep _ _ hq2)), rn, fun v hv => hlt v (rs v hv), fun H4 s4 => ⟨?_, s3.trans s4⟩⟩
      dsimp only
      rw [List.getD_eq_getElem?_getD, hr1]
      rfl
    · obtain ⟨r, hr1⟩ : ∃ r, (Diag.arranged vars.length vars)[i]? = some r := ⟨_, List.getElem?_eq_getElem (by
        have := (List.getElem?_eq_some_iff.mp hx).1
        rw [List.length_map] at this
        omega)⟩
      obtain ⟨qi, hq1, hq2⟩ := ha3 i r hr1
      rw [List.getElem?_map, hq1] at hx
      cases hx
      have eS : ExtN H H3 := (ExtN.of s1).trans (eN.trans (ExtN.of s3))
      refine q H3 qi i r eS (hT2.ext s3) hr1 (fun j y hy => ?_) (s3 _ _ (keep _ _ hq2))
      have hj : j < (as.map V.ref).length := by
        rw [List.length_map]
        have := (List.getElem?_eq_some_iff.mp hy).1
        omega
      have h1 := hb j hj
      dsimp only at h1
      rw [List.getD_eq_getElem?_getD, List.getD_eq_getElem?_getD, hr1, hy] at h1
      simp only [Option.getD_some] at h1
      exact ⟨by omega, fun z => by have := h1.2 z; omega⟩
end
end TQ
end
section
set_option Elab.async false
set_option linter.all false
set_option maxRecDepth 100000
set_option maxHeartbeats 4100000
namespace TQ
open L2 PyProof.Rows PySem PySem.Spec
/-! ### the calls: names of their numbers, of their defs -/
def nm : Nat → List Str
  | 0 => ["r", "z"]
  | 1 => ["r", "v"]
  | 2 => ["r", "a"]
  | 3 => ["r", "op", "a", "b"]
  | 4 => ["r", "a", "b", "c"]
  | 5 => ["r", "a", "v", "z"]
  | 6 => ["r", "a", "v"]
  | 7 => ["r", "a", "v"]
  | 8 => ["r", "a", "v", "b"]
  | 9 => ["a", "m"]
  | 10 => ["a"]
  | 11 => ["a", "from"]
  | 12 => ["a"]
  | 13 => ["a", "length"]
  | 14 => ["a"]
  | _ => ["a", "b"]
def fnm : Nat → Str
  | 0 => "make_const"
  | 1 => "make_var"
  | 2 => "make_not"
  | 3 => "make_two"
  | 4 => "make_choose"
  | 5 => "make_fix"
  | 6 => "make_some"
  | 7 => "make_all"
  | 8 => "make_put"
  | 9 => "answer_value"
  | 10 => "answer_count"
  | 11 => "answer_first"
  | 12 => "answer_matters"
  | 13 => "answer_diagram"
  | 14 => "answer_best"
  | _ => "answer_within"
/-- the top's CALLS -/
structure CallsT (K : PySem.W.Frag) (mg : Str → Option Value) (ca : Addr) (ra na fa : Nat → Addr) : Prop where
  gl : mg "CALLS" = some (.ref ca)
  all : ∀ H : Hp, SqT K H ca ((List.range 16).map fun i => V.ref (ra i))
  row : ∀ i, i < 16 → ∀ H : Hp, SqT K H (ra i) [.ref (na i), .ref (fa i)]
  names : ∀ i, i < 16 → ∀ H : Hp, SqT K H (na i) ((nm i).map V.str)
  fns : ∀ i, i < 16 → mg (fnm i) = some (.ref (fa i))
theorem CallsT.at_ {K : PySem.W.Frag} {mg : Str → Option Value} {ca : Addr} {ra na fa : Nat → Addr} (T : CallsT K mg ca ra na fa) {i : Nat} (h : i < 16) : ((List.range 16).map fun i => V.ref (ra i))[i]? = some (V.ref (ra i)) := by
  rw [List.getElem?_map, List.getElem?_range h]
  rfl
def greats : List (Str × Int) := [("r", 15), ("a", 15), ("b", 15), ("c", 15), ("v", 9), ("z", 1), ("op", 15), ("m", 1023)]
/-- the top's GREATEST -/
structure Great (K : PySem.W.Frag) (w : World) (mg : Str → Option Value) (b : Addr) (es : Array DictEntry) (n : Nat) : Prop where
  gl : mg "GREATEST" = some (.ref b)
  dict : KDict K w b es n
  has : ∀ x g, greats.lookup x = some g → ∃ t, PySem.W.nsIn K b x = some (some (.int g t))
  hasnt : ∀ x, x ∈ (["length", "from", "o"] : List Str) → PySem.W.nsIn K b x = some none
/-! ### what a call is told -/
def toldE (i : Nat) (xs : List Int) (oa : Addr) : List (Str × V) := ((nm i).zip xs).map (fun e => (e.1, V.int e.2)) ++ (if i = 13 then [(("o" : Str), V.ref oa)] else [])
def toldK (i : Nat) (xs : List Int) (oa : Addr) : List (Key × V) := (toldE i xs oa).map fun e => (Sum.inr e.1, e.2)
theorem nm_all : ∀ i, i < 16 → (nm i).Nodup ∧ ("o" : Str) ∉ nm i := by
  have h : ((List.range 16).all fun i => decide ((nm i).Nodup) && decide (("o" : Str) ∉ nm i)) = true := by decide +kernel
  intro i hi
  have := List.all_eq_true.mp h i (List.mem_range.mpr hi)
  simpa using this
theorem val_at : ∀ {l : List (Str × V)} {j : Nat} {x : Str} {v : V}, (l.map (·.1)).Nodup → l[j]? = some (x, v) → valV (l.map fun e => ((Sum.inr e.1 : Key), e.2)) (Sum.inr x) = some v
  | [], j, x, v, _, h => by simp at h
  | (y, u) :: l, j, x, v, nd, h => by
    rw [List.map_cons, List.nodup_cons] at nd; by_cases e : y = x
    · subst e
      cases j with
      | zero =>
        cases h
        exact valV_pos rfl
      | succ j =>
        exact absurd (List.mem_map_of_mem (f := fun (x : Str × V) => x.1) (List.mem_of_getElem? (i := j) (show l[j]? = some (y, v) by simpa using h))) nd.1
    · cases j with
      | zero =>
        cases h
        exact absurd rfl e
      | succ j =>
        rw [List.map_cons, valV_neg (fun z => e (Sum.inr.inj z))]
        exact val_at (j := j) nd.2 (by simpa using h)
theorem val_no : ∀ {l : List (Str × V)} {x : Str}, x ∉ l.map (·.1) → valV (l.map fun e => ((Sum.inr e.1 : Key), e.2)) (Sum.inr x) = none
  | [], x, _ => rfl
  | (y, u) :: l, x, h => by
    rw [List.map_cons, List.mem_cons, not_or] at h
    rw [List.map_cons, valV_neg (fun z => h.1 (Sum.inr.inj z).symm)]
    exact val_no h.2
theorem zip_fst {α β : Type} : ∀ {l : List α} {m : List β}, l.length ≤ m.length → (l.zip m).map (·.1) = l
  | [], _, _ => rfl
  | a :: l, [], h => by simp at h
  | a :: l, b :: m, h => by
    rw [List.zip_cons_cons, List.map_cons, zip_fst (by simpa using h)]
theorem toldE_keys {i : Nat} {xs : List Int} {oa : Addr} (hl : (nm i).length ≤ xs.length) : (toldE i xs oa).map (·.1) = nm i ++ (if i = 13 then [("o" : Str)] else []) := by
  unfold toldE
  rw [List.map_append, List.map_map]
  have : ((fun x : Str × V => x.1) ∘ fun e : Str × Int => (e.1, V.int e.2)) = fun e => e.1 := rfl
  rw [this, zip_fst hl]
  congr 1
  split <;> rfl
theorem toldE_nodup {i : Nat} (hi : i < 16) {xs : List Int} {oa : Addr} (hl : (nm i).length ≤ xs.length) : ((toldE i xs oa).map (·.1)).Nodup := by
  rw [toldE_keys hl]
  obtain ⟨h1, h2⟩ := nm_all i hi
  rw [List.nodup_append]
  refine ⟨h1, ?_, fun a ha b hb => ?_⟩
  · split <;> simp
  · split at hb
    · rw [List.mem_singleton.mp hb]; exact fun e => h2 (e ▸ ha)
    · cases hb
theorem told_get {i j : Nat} (hi : i < 16) {xs : List Int} {oa : Addr} {x : Str} {n : Int} (hl : (nm i).length ≤ xs.length) (hx : (nm i)[j]? = some x) (hn : xs[j]? = some n) : valV (toldK i xs oa) (Sum.inr x) = some (.int n) := by
  refine val_at (j := j) (toldE_nodup hi hl) ?_
  unfold toldE
  obtain ⟨h1, _⟩ := List.getElem?_eq_some_iff.mp hx
  rw [List.getElem?_append_left (by rw [List.length_map, List.length_zip]; omega), List.getElem?_map]
  have : ((nm i).zip xs)[j]? = some (x, n) := List.getElem?_zip_eq_some.mpr ⟨hx, hn⟩
  rw [this]
  rfl
theorem dget_told {H : Hp} {d : Addr} {i j : Nat} (hd : H d = some (.dK (toldK i xs oa))) (hi : i < 16) {x : Str} {n : Int} (hl : (nm i).length ≤ xs.length) (hx : (nm i)[j]? = some x) (hn : xs[j]? = some n) : DGet H d (.str x) (some (.int n)) := by
  have := DGet.k (k := Sum.inr x) hd
  rw [told_get hi hl hx hn] at this
  exact this
theorem told_no {i : Nat} {xs : List Int} {oa : Addr} {x : Str} (hl : (nm i).length ≤ xs.length) (h1 : x ∉ nm i) (h2 : i = 13 → x ≠ "o") : valV (toldK i xs oa) (Sum.inr x) = none := by
  refine val_no ?_
  rw [toldE_keys hl, List.mem_append, not_or]
  refine ⟨h1, fun m => ?_⟩
  split at m
  · rename_i e
    exact h2 e (List.mem_singleton.mp m)
  · cases m
theorem told_o {xs : List Int} {oa : Addr} (hl : 2 ≤ xs.length) : valV (toldK 13 xs oa) (Sum.inr ("o" : Str)) = some (.ref oa) := by
  refine val_at (j := 2) (toldE_nodup (by decide) (show (nm 13).length ≤ xs.length from hl)) ?_
  match xs, hl with
  | a :: b :: r, _ => rfl
theorem put_new {kvs : List (Key × V)} {k : Key} {v : V} (h : k ∉ kvs.map (·.1)) : putK kvs k v = kvs ++ [(k, v)] := by
  unfold putK
  rw [if_neg]
  intro c
  obtain ⟨x, hx, e⟩ := List.any_eq_true.mp c
  exact h (by rw [← of_decide_eq_true e]; exact List.mem_map_of_mem hx)
theorem merge_new : ∀ (l acc : List (Key × V)), ((acc ++ l).map (·.1)).Nodup → mergeK acc l = acc ++ l
  | [], acc, _ => by simp [mergeK]
  | (k, v) :: l, acc, nd => by
    show mergeK (putK acc k v) l = _
    have h : k ∉ acc.map (·.1) := fun m => by
      rw [List.map_append, List.map_cons, List.nodup_append] at nd
      exact nd.2.2 k m k (List.mem_cons_self ..) rfl
    rw [put_new h, merge_new l (acc ++ [(k, v)]) (by rw [List.append_assoc]; exact nd), List.append_assoc]
    rfl
section
variable {base : Heap} {mg : Str → Option Value} {K : PySem.W.Frag} {P : Program} {w : World} {ca : Addr} {ra na fa : Nat → Addr}
/-! told_by -/
def spToldBy (K : PySem.W.Frag) : Sp := fun vs H Q _ => ∃ (i : Nat) (l : Addr) (xs : List Int), vs = [.int i, .ref l] ∧ i < 16 ∧ SqL K H l (vi xs) ∧ (nm i).length ≤ xs.length ∧
  ∀ H' d oa, Same H H' → H d = none → H' d = some (.dK (toldK i xs oa)) → (i = 13 → H' oa = some (.lst (vi (xs.drop 2)))) → Q (.ref d) H'
theorem sc_told_by : FnScope ["number", "numbers", "told"] ["number", "numbers"] (defScope s_told_by) := ⟨rfl, rfl, rfl, by decide +kernel, rfl, by decide +kernel, by decide +kernel⟩
theorem zip_vals : ∀ (ks : List Str) (xs : List Int), ((ks.map fun k => (Sum.inr k : Key)).zip (vi xs)) = (ks.zip xs).map fun e => ((Sum.inr e.1 : Key), V.int e.2)
  | [], _ => rfl
  | _ :: _, [] => rfl
  | k :: ks, x :: xs => by
    have ih := zip_vals ks xs
    show (Sum.inr k, V.int x) :: ((ks.map fun k => (Sum.inr k : Key)).zip (vi xs)) = (Sum.inr k, V.int x) :: (ks.zip xs).map fun e => ((Sum.inr e.1 : Key), V.int e.2)
    rw [ih]
theorem ok_told_by {t : Tok} (D : IsDef K mg "told_by" s_told_by ["number", "numbers"]) (T : CallsT K mg ca ra na fa) (mZ : mg "zip" = none) (mD : mg "dict" = none) (mL : mg "len" = none) (hDI : mg "DIAGRAM" = some (.int 13 t)) : DefOk P w K mg base 1 "told_by" (spToldBy K) := by
  refine D.ok sc_told_by (fun vs H Q E h => ?_) (fun f cdv A outer s H vs Q E hr h => ?_)
  · obtain ⟨i, l, xs, rfl, _⟩ := h
    rfl
  · obtain ⟨i, l, xs, rfl, hi, hl, hlen, q⟩ := h
    have ndp := sc_told_by.nd
    have hu := hu_of hr
    refine ⟨_, pss_cons (ps_set (i := 2) ndp rfl (Or.inl rfl) (pe_dictZip rfl rfl mZ rfl mD (pa_cons (pe_ix ix_tup (pe_ix ix_tup (pe_glob (v := .ref ca) rfl T.gl rfl) (pv 0) (fun _ _ => rfl)) pe_int (fun _ _ => rfl)) (pa_cons (pv 1) pa_nil))))
      (pss_cons (ps_if (pt_cmpR op_eq (pv 0) (pe_glob (v := .int 13) rfl hDI ⟨_, rfl⟩) (nomark _))
        (pss_one (ps_dput hu (pv 2) pe_str (pe_slice sl_list (pv 1) (po_some (pe_callB call_lenD (by rfl) mL PySem.boot_len (pa_cons (pv 2) pa_nil))) po_none) rfl)) pss_nil)
      (pss_one (ps_ret (pv 2)))), ?_⟩
    refine ⟨_, rfl, ca, _, _, _, rfl, rfl, T.all H, atI_nat (T.at_ hi), ?_⟩
    refine ⟨ra i, _, 0, _, rfl, rfl, T.row i hi H, rfl, ?_⟩
    refine ⟨_, rfl, na i, l, (nm i).map Sum.inr, vi xs, rfl, ?_, hl, fun d hd => ?_⟩
    · have : ((nm i).map Sum.inr).map kV = (nm i).map V.str := by
        rw [List.map_map]
        rfl
      rw [this]
      exact T.names i hi H
    · have nd13 := toldE_nodup hi (oa := 0) hlen
      have em : mergeK [] (((nm i).map Sum.inr).zip (vi xs)) = ((nm i).zip xs).map fun e => ((Sum.inr e.1 : Key), V.int e.2) := by
        rw [zip_vals, merge_new _ []]
        · rfl
        · rw [List.nil_append, List.map_map]
          have h1 : (((nm i).zip xs).map ((fun x : Key × V => x.1) ∘ fun e : Str × Int => ((Sum.inr e.1 : Key), V.int e.2))) = (((nm i).zip xs).map (·.1)).map fun k => (Sum.inr k : Key) := by
            rw [List.map_map]
            rfl
          rw [h1, zip_fst hlen]
          exact (nm_all i hi).1.map _ fun a b hne e => hne (Sum.inr.inj e)
      rw [em]
      refine ⟨_, rfl, rfl, _, rfl, ?_⟩; by_cases c : i = 13
      · subst c
        refine iteT ?_
        refine ⟨_, rfl, _, rfl, d, _, rfl, upd_same, _, rfl, l, vi xs, rfl, (same_upd hd).seq hl, fun p hp => ?_⟩
        have hpd : d ≠ p := ne_of_none upd_same hp
        have e2 : (((nm 13).zip xs).map fun e => ((Sum.inr e.1 : Key), V.int e.2)).length = 2 := by
          rw [List.length_map, List.length_zip]
          have : (nm 13).length = 2 := rfl
          omega
        rw [e2]
        have cut : cutV (vi xs) (some ((2 : Nat) : Int)) none = vi (xs.drop 2) := by
          have l1 : (vi xs).length = xs.length := by simp [vi]
          have : (nm 13).length = 2 := rfl
          unfold cutV
          rw [HT.sIx_nat, HT.sIx_none, l1, Nat.min_eq_left (by omega), List.take_of_length_le (by rw [List.length_drop, l1]; exact Nat.le_refl _)]
          unfold vi
          rw [List.map_drop]
        refine ⟨_, rfl, d, _, rfl, DPut.k (k := Sum.inr "o") (by rw [upd_ne hpd, upd_same]) (by rw [e2]; rw [sizeLine_eq]; decide), ?_⟩
        refine ⟨_, rfl, q _ d p ?_ hd ?_ ?_⟩
        · exact Same.upd' (Same.upd (same_upd hd) hp) hd
        · rw [upd_same, put_new]
          · show _ = some (HO.dK (List.map _ (toldE 13 xs p)))
            unfold toldE
            rw [List.map_append, List.map_map]
            rfl
          · rw [List.map_map]
            intro m
            have h1 : (((nm 13).zip xs).map ((fun x : Key × V => x.1) ∘ fun e : Str × Int => ((Sum.inr e.1 : Key), V.int e.2))) = (((nm 13).zip xs).map (·.1)).map fun k => (Sum.inr k : Key) := by
              rw [List.map_map]
              rfl
            rw [h1, zip_fst hlen] at m
            obtain ⟨k, hk, e⟩ := List.mem_map.mp m
            exact (nm_all 13 hi).2 (by rw [← Sum.inr.inj e]; exact hk)
        · intro _
          rw [upd_ne hpd.symm, upd_same, cut]
      · rw [decide_eq_false (show ¬ V.int ((i : Nat) : Int) = V.int 13 from fun z => by have := V.int.inj z; omega)]
        refine iteF ⟨_, rfl, q _ d 0 (same_upd hd) hd ?_ (fun z => absurd z c)⟩
        rw [upd_same]
        unfold toldK toldE
        rw [if_neg c, List.append_nil, List.map_map]
        rfl
end
end TQ
end
section
set_option Elab.async false
set_option linter.all false
set_option maxRecDepth 100000
set_option maxHeartbeats 4100000
namespace TQ
open L2 PyProof.Rows PySem PySem.Spec
def over (x : Str) (n : Int) : Bool := match greats.lookup x with
  | some g => decide (g < n)
  | none => false
/-- whether a call is refused: by its number, its numbers and its list -/
def rfB (i : Nat) (xs : List Int) (o : List Nat) : Bool := (decide (i = 13) && !Diag.isOrder o) || ((nm i).zip xs).any fun e => over e.1 e.2
theorem nm_known : ∀ i, i < 16 → ∀ x ∈ nm i, (greats.lookup x).isSome = true ∨ x ∈ (["length", "from", "o"] : List Str) := by
  have h : ((List.range 16).all fun i => (nm i).all fun x => (greats.lookup x).isSome || decide (x ∈ (["length", "from", "o"] : List Str))) = true := by decide +kernel
  intro i hi x hx
  have := List.all_eq_true.mp (List.all_eq_true.mp h i (List.mem_range.mpr hi)) x hx
  simpa using this
theorem greats_no : ∀ x, x ∈ (["length", "from", "o"] : List Str) → greats.lookup x = none := by
  have h : ((["length", "from", "o"] : List Str).all fun x => (greats.lookup x).isNone) = true := by decide +kernel
  intro x hx
  have := List.all_eq_true.mp h x hx
  simpa using this
theorem range_filter {α : Type} (d : α) (P : α → Bool) {β : Type} (F : α → β) (l : List α) : ((List.range l.length).filter fun i => P (l.getD i d)).map (fun i => F (l.getD i d)) = (l.filter P).map F := by
  have h : (List.range l.length).map (fun i => l.getD i d) = l := by
    apply List.ext_getElem
    · simp
    · intro i h1 h2
      simp at h1 h2 ⊢
      simp [h2]
  conv => rhs; rw [← h]
  rw [List.filter_map, List.map_map]
  rfl
theorem getD_some {α : Type} {l : List α} {i : Nat} {d a : α} (h : l[i]? = some a) : l.getD i d = a := by
  rw [List.getD_eq_getElem?_getD, h]
  rfl
def keptE (e : Str × V) : Bool := (greats.lookup e.1).isSome
def overE (e : Str × V) : Bool := match e.2 with
  | .int n => over e.1 n
  | _ => false
theorem any_kept : ∀ (l : List (Str × Int)) (oa : Addr) (b : Bool), ((l.map (fun e => (e.1, V.int e.2)) ++ (if b = true then [(("o" : Str), V.ref oa)] else [])).filter keptE).any overE = l.any fun e => over e.1 e.2
  | [], oa, b => by
    cases b
    · rfl
    · show ([(("o" : Str), V.ref oa)].filter keptE).any overE = false
      have : keptE (("o" : Str), V.ref oa) = false := by
        unfold keptE
        rw [greats_no "o" (by simp)]
        rfl
      rw [List.filter_cons, this]
      rfl
  | (x, n) :: l, oa, b => by
    have ih := any_kept l oa b
    show (((x, V.int n) :: (l.map (fun e => (e.1, V.int e.2)) ++ (if b = true then [(("o" : Str), V.ref oa)] else []))).filter keptE).any overE = (over x n || l.any fun e => over e.1 e.2)
    rw [List.filter_cons]
    cases c : greats.lookup x with
    | none =>
      have k : keptE (x, V.int n) = false := by unfold keptE; rw [c]; rfl
      have o : over x n = false := by unfold over; rw [c]
      rw [k, if_neg (by decide), ih, o, Bool.false_or]
    | some g =>
      have k : keptE (x, V.int n) = true := by unfold keptE; rw [c]; rfl
      rw [k, if_pos rfl, List.any_cons, ih]
      rfl
def rInKd (K : PySem.W.Frag) (b : Addr) : R2 := fun x y H Q => ∃ (z : Str) (r : Option Value), x = .str z ∧ y = .ref b ∧ PySem.W.nsIn K b z = some r ∧ Q (.bl r.isSome) H
section
variable {base : Heap} {mg : Str → Option Value} {K : PySem.W.Frag} {P : Program} {w : World}
def spRef (K : PySem.W.Frag) : Sp := fun vs H Q _ => ∃ (i : Nat) (d oa : Addr) (xs : List Int) (o : List Nat), vs = [.ref d] ∧ i < 16 ∧ (nm i).length ≤ xs.length ∧ H d = some (.dK (toldK i xs oa)) ∧ (i = 13 → H oa = some (.lst (nv o))) ∧ ∀ H', Same H H' → Q (.bl (rfB i xs o)) H'
theorem sc_is_refused : FnScope ["told", "name"] ["told"] (defScope s_is_refused) := ⟨rfl, rfl, rfl, by decide +kernel, rfl, by decide +kernel, by decide +kernel⟩
theorem ok_is_refused {b : Addr} {es : Array DictEntry} {n : Nat} (D : IsDef K mg "is_refused" s_is_refused ["told"]) (mA : mg "any" = none) (G : Great K w mg b es n) (dO : DefOk P w K mg base 1 "is_order" (spIsOrder K)) : DefOk P w K mg base 2 "is_refused" (spRef K) := by
  refine D.ok sc_is_refused (fun vs H Q E h => ?_) (fun f cdv A outer s H vs Q E hr h => ?_)
  · obtain ⟨i, d, oa, xs, o, rfl, _⟩ := h
    rfl
  · obtain ⟨i, d, oa, xs, o, rfl, hi, hl, hd, hoa, q⟩ := h
    have ndp := sc_is_refused.nd
    have hu := hu_of hr
    refine ⟨_, C8.pss_cut (ps_if (pw_and (pt_cmp (pc_din hu pe_str (pv 0))) (pw_and1 (pt_not (pt_val (pe_cl dO hr (by rfl) (pa_cons (pe_dget hu (pv 0) pe_str (fun _ _ => rfl)) pa_nil)))))).pt (pss_one (ps_ret pe_bl)) pss_nil)
      (pss_one (ps_ret (pe_callB (cr_any rfl) (by rfl) mA (by decide +kernel) (pa_cons (pe_lock (pe_lc (own := [("name", 1)]) (g := gName 1) rfl ndp (pi_keys (pv 0))
      (blkOk_by (N := ["told", "name"]) (sc := defScope s_is_refused) (by decide +kernel)) (fun _ _ _ _ _ => pg_name (i := 1) ndp rfl (Or.inl rfl)) (fun _ _ _ _ _ => pts_one (pt_cmpR (show OpR _ _ (rInKd K b) from op_in_kd G.dict) (pv 1) (pe_glob (v := .ref b) rfl G.gl rfl) (by rfl)))
      (fun _ _ _ _ _ => pe_cmpR op_gt (pe_dget hu (pv 0) (pv 1) (fun _ _ => rfl)) (pe_ix (show IxR _ (rIxD K w) from ix_kdict) (pe_glob (v := .ref b) rfl G.gl rfl) (pv 1) (fun _ _ => rfl)) (nomark _)))) pa_nil)))), ?_⟩
    refine ⟨fun σ' H1 => σ' = [some (.ref d), none] ∧ Same H H1 ∧ (decide (i = 13) && !Diag.isOrder o) = false, ?_, ?_⟩
    · refine ⟨_, rfl, d, _, rfl, DGet.k (k := Sum.inr "o") hd, _, rfl, ?_⟩
      by_cases c : i = 13
      · subst c
        rw [told_o hl]
        refine iteT ?_
        have hg : DGet H d (.str "o") (some (.ref oa)) := by
          have := DGet.k (k := Sum.inr "o") hd
          rw [told_o hl] at this
          exact this
        refine ⟨_, rfl, d, _, rfl, hg, ?_⟩
        refine ⟨oa, o, rfl, SqL.of (hoa rfl), fun H1 s1 => ⟨_, rfl, ?_⟩⟩
        cases hO : Diag.isOrder o
        · refine iteT ?_
          have := q H1 s1
          unfold rfB at this
          rw [hO] at this
          exact this
        · refine iteF ⟨rfl, s1, rfl⟩
      · have hno : ("o" : Str) ∉ nm i := (nm_all i hi).2
        rw [told_no hl hno (fun z => absurd z c)]
        refine iteF (iteF ⟨rfl, Same.refl _, by simp [c]⟩)
    · rintro σ' H1 ⟨rfl, s1, hf⟩
      have hd1 := s1 _ _ hd
      refine ⟨d, _, hd1, trivial, fun od => ?_⟩
      refine ⟨_, rfl, d, od, rfl, .inl ⟨toldK i xs oa, upd_same, fun D hD => ?_⟩⟩
      have walk := walk_keys (d := d) (o := od) (kvs := toldK i xs oa)
      have hlen : (toldK i xs oa).length = (toldE i xs oa).length := by simp [toldK]
      have hle : (toldE i xs oa).length ≤ 1000 := by
        unfold toldE
        have h1 : (nm i).length ≤ 4 := by
          have h : ((List.range 16).all fun i => decide ((nm i).length ≤ 4)) = true := by decide +kernel
          simpa using List.all_eq_true.mp h i (List.mem_range.mpr hi)
        rw [List.length_append, List.length_map, List.length_zip]
        split <;> simp <;> omega
      have hnd := toldE_nodup hi (oa := oa) hl
      refine lc_filt walk (fun j => keptE ((toldE i xs oa).getD j ("", .non))) (fun j => V.bl (overE ((toldE i xs oa).getD j ("", .non)))) (by rw [hlen]; exact small1000 hle) hD (fun H2 s2 => s2 _ _ upd_same) (fun j x H2 H2' R hj s2 y k1 k2 => ?_) (fun H2 s2 e2 => ?_)
      · obtain ⟨rfl, k', v', hk, rfl⟩ := y
        unfold toldK at hk
        rw [List.getElem?_map] at hk
        cases he : (toldE i xs oa)[j]? with
        | none => rw [he] at hk; cases hk
        | some e =>
          rw [he] at hk
          obtain ⟨x, v⟩ := e
          have hk := Option.some.inj hk
          have ek : k' = Sum.inr x := (Prod.mk.inj hk).1.symm
          have ev : v' = v := (Prod.mk.inj hk).2.symm
          subst ek ev
          rw [getD_some he] at k1 k2
          have hd2 : H2' d = some (.frz od (.dK (toldK i xs oa))) := s2 _ _ upd_same
          have known : (greats.lookup x).isSome = true ∨ x ∈ (["length", "from", "o"] : List Str) := by
            have hx : x ∈ (toldE i xs oa).map (·.1) := List.mem_map_of_mem (f := fun (e : Str × V) => e.1) (List.mem_of_getElem? he)
            rw [toldE_keys hl, List.mem_append] at hx
            rcases hx with m | m
            · exact nm_known i hi x m
            · split at m
              · rw [List.mem_singleton.mp m]
                exact .inr (by simp)
              · cases m
          cases hg : greats.lookup x with
          | none =>
            have hm : x ∈ (["length", "from", "o"] : List Str) := known.resolve_left (by rw [hg]; decide)
            refine ⟨rfl, _, rfl, x, none, rfl, rfl, G.hasnt x hm, _, rfl, iteF (k1 H2' ?_ (Same.refl _))⟩
            show (greats.lookup x).isSome = false
            rw [hg]
            rfl
          | some g =>
            obtain ⟨t, ht⟩ := G.has x g hg
            refine ⟨rfl, _, rfl, x, _, rfl, rfl, ht, _, rfl, iteT ?_⟩
            -- a number
            have num : ∃ m, v' = .int m := by
              have hx := List.mem_of_getElem? he
              unfold toldE at hx
              rcases List.mem_append.mp hx with m | m
              · obtain ⟨e, _, e2⟩ := List.mem_map.mp m
                exact ⟨e.2, (Prod.mk.inj e2).2.symm⟩
              · split at m
                · have e2 := List.mem_singleton.mp m
                  have e3 := (Prod.mk.inj e2).1
                  subst e3
                  rw [greats_no "o" (by simp)] at hg
                  cases hg
                · cases m
            obtain ⟨m, rfl⟩ := num
            refine ⟨_, rfl, _, rfl, d, .int m, rfl, .inl ⟨toldK i xs oa, Sum.inr x, .inr ⟨od, hd2⟩, rfl, (val_at hnd he).symm⟩, ?_⟩
            refine ⟨_, rfl, b, x, .int g, rfl, rfl, ⟨es, n, _, G.dict.at_, G.dict.lit, ht, t, rfl⟩, m, g, rfl, rfl, ?_⟩
            refine k2 _ _ ?_ ?_ (Same.refl _)
            · show (greats.lookup x).isSome = true
              rw [hg]
              rfl
            · show V.bl (decide (g < m)) = V.bl (over x m)
              unfold over
              rw [hg]
      · refine ⟨s2 _ _ upd_same, D, ((toldE i xs oa).filter keptE).map overE, rfl, SqL.of ?_, ?_⟩
        · rw [upd_ne (fun z => by rw [z] at hD; rw [upd_same] at hD; cases hD), e2, hlen, range_filter (("", .non) : Str × V) keptE (fun e => V.bl (overE e)), List.map_map]
          rfl
        · rw [List.any_map]
          have e3 : ((toldE i xs oa).filter keptE).any (id ∘ overE) = ((nm i).zip xs).any fun e => over e.1 e.2 := by
            have := any_kept ((nm i).zip xs) oa (decide (i = 13))
            unfold toldE
            simpa using this
          rw [e3]
          have e4 : rfB i xs o = ((nm i).zip xs).any fun e => over e.1 e.2 := by
            unfold rfB
            rw [hf, Bool.false_or]
          rw [e4] at q
          refine q _ fun c u hc => ?_
          by_cases z : c = d
          · rw [z, hd] at hc
            cases hc
            rw [z, upd_same]
          · rw [upd_ne z]
            exact s2 _ _ (by rw [upd_ne z]; exact s1 _ _ hc)
end
end TQ
end
section
set_option Elab.async false
set_option linter.all false
set_option maxRecDepth 100000
set_option maxHeartbeats 4100000
namespace TQ
open LamX L2 PyProof.Rows PySem PySem.Spec
/-! ### refused, both ways -/
theorem over_of {x : Str} {g : Nat} (h : greats.lookup x = some ((g : Nat) : Int)) (n : Nat) : over x (Int.ofNat n) = decide (g < n) := by
  unfold over
  rw [h]
  show decide (((g : Nat) : Int) < ((n : Nat) : Int)) = decide (g < n)
  by_cases e : g < n
  · rw [decide_eq_true e, decide_eq_true (by omega)]
  · rw [decide_eq_false e, decide_eq_false (by omega)]
theorem over_no {x : Str} (h : greats.lookup x = none) (n : Int) : over x n = false := by
  unfold over
  rw [h]
theorem ov_r (n : Nat) : over "r" (Int.ofNat n) = decide (15 < n) := over_of (by decide +kernel) n
theorem ov_a (n : Nat) : over "a" (Int.ofNat n) = decide (15 < n) := over_of (by decide +kernel) n
theorem ov_b (n : Nat) : over "b" (Int.ofNat n) = decide (15 < n) := over_of (by decide +kernel) n
theorem ov_c (n : Nat) : over "c" (Int.ofNat n) = decide (15 < n) := over_of (by decide +kernel) n
theorem ov_v (n : Nat) : over "v" (Int.ofNat n) = decide (9 < n) := over_of (by decide +kernel) n
theorem ov_z (n : Nat) : over "z" (Int.ofNat n) = decide (1 < n) := over_of (by decide +kernel) n
theorem ov_op (n : Nat) : over "op" (Int.ofNat n) = decide (15 < n) := over_of (by decide +kernel) n
theorem ov_m (n : Nat) : over "m" (Int.ofNat n) = decide (1023 < n) := over_of (by decide +kernel) n
theorem ov_from (n : Int) : over "from" n = false := over_no (by decide +kernel) n
theorem ov_length (n : Int) : over "length" n = false := over_no (by decide +kernel) n
theorem rf1 (i : Nat) (h : i ≠ 13) (xs : List Int) (o : List Nat) : rfB i xs o = ((nm i).zip xs).any fun e => over e.1 e.2 := by
  unfold rfB
  rw [decide_eq_false h, Bool.false_and, Bool.false_or]
theorem rfB_eq {i : Nat} (hi : i < 16) {X o : List Nat} (hX : ShapeOk i X o) : rfB i (X.map Int.ofNat) o = refN o i X := by
  have c : i = 0 ∨ i = 1 ∨ i = 2 ∨ i = 3 ∨ i = 4 ∨ i = 5 ∨ i = 6 ∨ i = 7 ∨ i = 8 ∨ i = 9 ∨ i = 10 ∨ i = 11 ∨ i = 12 ∨ i = 13 ∨ i = 14 ∨ i = 15 := by omega
  rcases c with e | e | e | e | e | e | e | e | e | e | e | e | e | e | e | e <;> subst e
  · obtain ⟨r, z, rfl⟩ := eq_of_len2 hX
    rw [rf1 _ (by decide)]
    show (over "r" _ || (over "z" _ || false)) = _
    rw [ov_r, ov_z, Bool.or_false]
    rfl
  · obtain ⟨r, z, rfl⟩ := eq_of_len2 hX
    rw [rf1 _ (by decide)]
    show (over "r" _ || (over "v" _ || false)) = _
    rw [ov_r, ov_v, Bool.or_false]
    rfl
  · obtain ⟨r, z, rfl⟩ := eq_of_len2 hX
    rw [rf1 _ (by decide)]
    show (over "r" _ || (over "a" _ || false)) = _
    rw [ov_r, ov_a, Bool.or_false]
    rfl
  · obtain ⟨r, op, a, b, rfl⟩ := eq_of_len4 hX
    rw [rf1 _ (by decide)]
    show (over "r" _ || (over "op" _ || (over "a" _ || (over "b" _ || false)))) = _
    rw [ov_r, ov_op, ov_a, ov_b, Bool.or_false]
    rfl
  · obtain ⟨r, op, a, b, rfl⟩ := eq_of_len4 hX
    rw [rf1 _ (by decide)]
    show (over "r" _ || (over "a" _ || (over "b" _ || (over "c" _ || false)))) = _
    rw [ov_r, ov_a, ov_b, ov_c, Bool.or_false]
    rfl
  · obtain ⟨r, op, a, b, rfl⟩ := eq_of_len4 hX
    rw [rf1 _ (by decide)]
    show (over "r" _ || (over "a" _ || (over "v" _ || (over "z" _ || false)))) = _
    rw [ov_r, ov_a, ov_v, ov_z, Bool.or_false]
    rfl
  · obtain ⟨r, op, a, rfl⟩ := eq_of_len3 hX
    rw [rf1 _ (by decide)]
    show (over "r" _ || (over "a" _ || (over "v" _ || false))) = _
    rw [ov_r, ov_a, ov_v, Bool.or_false]
    rfl
  · obtain ⟨r, op, a, rfl⟩ := eq_of_len3 hX
    rw [rf1 _ (by decide)]
    show (over "r" _ || (over "a" _ || (over "v" _ || false))) = _
    rw [ov_r, ov_a, ov_v, Bool.or_false]
    rfl
  · obtain ⟨r, op, a, b, rfl⟩ := eq_of_len4 hX
    rw [rf1 _ (by decide)]
    show (over "r" _ || (over "a" _ || (over "v" _ || (over "b" _ || false)))) = _
    rw [ov_r, ov_a, ov_v, ov_b, Bool.or_false]
    rfl
  · obtain ⟨r, z, rfl⟩ := eq_of_len2 hX
    rw [rf1 _ (by decide)]
    show (over "a" _ || (over "m" _ || false)) = _
    rw [ov_a, ov_m, Bool.or_false]
    rfl
  · obtain ⟨r, rfl⟩ := eq_of_len1 hX
    rw [rf1 _ (by decide)]
    show (over "a" _ || false) = _
    rw [ov_a, Bool.or_false]
    rfl
  · obtain ⟨r, z, rfl⟩ := eq_of_len2 hX
    rw [rf1 _ (by decide)]
    show (over "a" _ || (over "from" _ || false)) = _
    rw [ov_a, ov_from, Bool.or_false, Bool.or_false]
    rfl
  · obtain ⟨r, rfl⟩ := eq_of_len1 hX
    rw [rf1 _ (by decide)]
    show (over "a" _ || false) = _
    rw [ov_a, Bool.or_false]
    rfl
  · obtain ⟨a, m, rfl⟩ := hX
    show ((true && !Diag.isOrder o) || (over "a" (Int.ofNat a) || (over "length" (Int.ofNat m) || false))) = _
    rw [ov_a, ov_length, Bool.or_false, Bool.or_false, Bool.true_and]
    rfl
  · obtain ⟨r, rfl⟩ := eq_of_len1 hX
    rw [rf1 _ (by decide)]
    show (over "a" _ || false) = _
    rw [ov_a, Bool.or_false]
    rfl
  · obtain ⟨r, z, rfl⟩ := eq_of_len2 hX
    rw [rf1 _ (by decide)]
    show (over "a" _ || (over "b" _ || false)) = _
    rw [ov_a, ov_b, Bool.or_false]
    rfl
/-! ### the registers -/
/-- the registers: a list of sixteen references, each to a function's table -/
structure Regs (H : Hp) (rg : Addr) (s : Diag.State) (refs : List Addr) : Prop where
  at_ : H rg = some (.lst (refs.map V.ref))
  len : refs.length = 16
  slen : s.length = 16
  tabs : ∀ i p, refs[i]? = some p → H p = some (.lst (tv (Diag.value (s.getD i 0))))
theorem Regs.ne {H : Hp} {rg : Addr} {s : Diag.State} {refs : List Addr} (R : Regs H rg s refs) : rg ∉ refs := by
  intro h
  obtain ⟨i, hi, e⟩ := List.getElem_of_mem h
  have h1 := R.tabs i rg (by rw [List.getElem?_eq_getElem hi, e])
  rw [R.at_] at h1
  have h2 := congrArg List.length (HO.lst.inj (Option.some.inj h1))
  rw [List.length_map, R.len, tv_len] at h2
  cases h2
/-- all else stands -/
theorem Regs.over {H H' : Hp} {rg : Addr} {s : Diag.State} {refs : List Addr} (R : Regs H rg s refs) (k : ∀ b o, (b = rg ∨ b ∈ refs) → H b = some o → H' b = some o) : Regs H' rg s refs :=
  ⟨k _ _ (.inl rfl) R.at_, R.len, R.slen, fun i p hp => k _ _ (.inr (List.mem_of_getElem? hp)) (R.tabs i p hp)⟩
theorem Regs.same {H H' : Hp} {rg : Addr} {s : Diag.State} {refs : List Addr} (R : Regs H rg s refs) (k : Same H H') : Regs H' rg s refs := R.over fun b o _ e => k b o e
theorem Regs.get {H : Hp} {rg : Addr} {s : Diag.State} {refs : List Addr} (R : Regs H rg s refs) {a : Nat} (ha : a ≤ 15) : ∃ p, atI (refs.map V.ref) ((a : Nat) : Int) = some (.ref p) ∧ H p = some (.lst (tv (Diag.value (Diag.reg s a)))) := by
  have hl := R.len
  have e : refs[a]? = some refs[a] := List.getElem?_eq_getElem (by omega)
  refine ⟨refs[a], atI_nat ?_, R.tabs a _ e⟩
  rw [List.getElem?_map, e]
  rfl
/-- what the def of the call i is handed, and that it isn't refused -/
structure Handed (Pt : Addr) (i : Nat) (H : Hp) (rg d oa : Addr) (X o : List Nat) (s : Diag.State) (refs : List Addr) : Prop where
  regs : Regs H rg s refs
  dict : H d = some (.dK (toldK i (X.map Int.ofNat) oa))
  shape : ShapeOk i X o
  list : i = 13 → H oa = some (.lst (nv o))
  small : ∀ x ∈ X, x < 9223372036854775808
  notR : refN o i X = false
  tabs : Tabs [(Pt, lamQ)] H
theorem Handed.same {Pt : Addr} {i : Nat} {H H' : Hp} {rg d oa : Addr} {X o : List Nat} {s : Diag.State} {refs : List Addr} (h : Handed Pt i H rg d oa X o s refs) (k : Same H H') : Handed Pt i H' rg d oa X o s refs :=
  ⟨h.regs.same k, k _ _ h.dict, h.shape, fun e => k _ _ (h.list e), h.small, h.notR, h.tabs.ext k⟩
theorem nm_len {i : Nat} (hi : i < 16) {X o : List Nat} (h : ShapeOk i X o) : (nm i).length ≤ (X.map Int.ofNat).length := by
  rw [List.length_map]
  have c : ((List.range 16).all fun i => decide ((nm i).length = cnum i)) = true := by decide +kernel
  have c1 : (nm i).length = cnum i := by simpa using List.all_eq_true.mp c i (List.mem_range.mpr hi)
  unfold ShapeOk at h
  split at h
  · rename_i e
    obtain ⟨a, m, rfl⟩ := h
    subst e
    show 2 ≤ o.length + 2
    omega
  · omega
/-- nothing but a table may stand there -/
def Free (H : Hp) (p : Addr) : Prop := ∀ o, H p = some o → ∃ ps, o = HO.tbl ps
theorem Free.of {H : Hp} {p : Addr} (h : H p = none) : Free H p := fun o e => by rw [h] at e; cases e
theorem Free.ext {H H' : Hp} {p : Addr} (e : ExtN H H') (h : H' p = none) : Free H p := fun o q => by
  by_cases z : ∃ ps, o = HO.tbl ps
  · exact z
  · rw [e _ _ q (fun ps z' => z ⟨ps, z'⟩)] at h
    cases h
theorem Free.lst {H : Hp} {p b : Addr} {xs : List V} (h : Free H p) (e : H b = some (.lst xs)) : p ≠ b := fun z => by
  subst z
  obtain ⟨ps, q⟩ := h _ e
  cases q
/-- the promise of the def of the call i -/
def spFn (K : PySem.W.Frag) (Pt : Addr) (i : Nat) : Sp := fun vs H Q _ => ∃ (rg d oa : Addr) (X o : List Nat) (s : Diag.State) (refs : List Addr), vs = [.ref rg, .ref d] ∧ Handed Pt i H rg d oa X o s refs ∧
  if i < 9 then newL H (tv (Diag.value (fnOf s i X))) Q else ∀ H' p, ExtN H H' → Tabs [(Pt, lamQ)] H' → Free H p → H' p = some (.lst (vi (ansOf s o i X))) → Q (.ref p) H'
theorem tv_by (g : Nat → Bool) : tv (Diag.value (Diag.funcBy g)) = tv g := congrArg vi (tb_by g)
section
variable {K : PySem.W.Frag} {Pt : Addr} {i : Nat} {H : Hp} {rg d oa : Addr} {X o : List Nat} {s : Diag.State} {refs : List Addr} {r : L2.St}
/-- told[x] -/
theorem rd_num (h : Handed Pt i H rg d oa X o s refs) (hi : i < 16) {x : Str} {j n : Nat} (hx : (nm i)[j]? = some x) (hn : X[j]? = some n) {Q : VK} (q : Q (.int ((n : Nat) : Int)) H) : tDGet (tVar 1) (tC (.str x)) (some (.ref rg) :: some (.ref d) :: r) H Q :=
  ⟨_, rfl, d, _, rfl, dget_told h.dict hi (nm_len hi h.shape) hx (by rw [List.getElem?_map, hn]; rfl), q⟩
/-- registers[told[x]] -/
theorem rd_reg (h : Handed Pt i H rg d oa X o s refs) (hi : i < 16) {x : Str} {j a : Nat} (hx : (nm i)[j]? = some x) (hn : X[j]? = some a) (ha : a ≤ 15) {Q : VK} (q : ∀ p, H p = some (.lst (tv (Diag.value (Diag.reg s a)))) → Q (.ref p) H) :
    tOp (rIxL K) (tVar 0) (tDGet (tVar 1) (tC (.str x))) (some (.ref rg) :: some (.ref d) :: r) H Q := by
  obtain ⟨p, h1, h2⟩ := h.regs.get ha
  exact ⟨_, rfl, rd_num h hi hx hn ⟨rg, _, _, _, rfl, rfl, SqL.of h.regs.at_, h1, q p h2⟩⟩
end
section
variable {base : Heap} {mg : Str → Option Value} {K : PySem.W.Frag} {P : Program} {w : World} {Pt : Addr}
theorem sp_len {i : Nat} {vs : List V} {H : Hp} {Q : VK} {E : XK} (h : spFn K Pt i vs H Q E) : vs.length = 2 := by
  obtain ⟨rg, d, oa, X, o, s, refs, rfl, _⟩ := h
  rfl
theorem sc_make_const : FnScope ["registers", "told"] ["registers", "told"] (defScope s_make_const) := ⟨rfl, rfl, rfl, by decide +kernel, rfl, by decide +kernel, by decide +kernel⟩
theorem ok_make_const (D : IsDef K mg "make_const" s_make_const ["registers", "told"]) (dE : DefOk P w K mg base 1 "everywhere" spEverywhere) : DefOk P w K mg base 2 "make_const" (spFn K Pt 0) := by
  refine D.ok sc_make_const (fun vs H Q E h => sp_len h) (fun f cdv A outer s H vs Q E hr h => ?_)
  obtain ⟨rg, d, oa, X, o, s, refs, rfl, h, q⟩ := h
  have hu := hu_of hr
  obtain ⟨r, z, rfl⟩ := eq_of_len2 h.shape
  have hn := h.notR
  simp only [refN, Bool.or_eq_false_iff, decide_eq_false_iff_not] at hn
  refine ⟨_, pss_one (ps_ret (pe_cl dE hr rfl (pa_cons (pe_dget hu (pv 1) pe_str (fun _ _ => rfl)) pa_nil))), ?_⟩
  refine rd_num h (j := 1) (by decide) rfl rfl ⟨_, rfl, fun H1 p s1 n1 e1 => ?_⟩
  refine q H1 p s1 n1 ?_
  rw [e1]
  refine congrArg (fun l => some (HO.lst l)) ?_
  show _ = tv (Diag.value (Diag.constant (z == 1)))
  unfold Diag.constant
  rw [tv_by]
  have e : ((z : Nat) : Int) = b2i (z == 1) := by
    have : z = 0 ∨ z = 1 := by omega
    rcases this with e | e <;> subst e <;> rfl
  rw [e]
  unfold tv vi tb
  rw [List.map_const', List.length_range, List.map_replicate]
end
end TQ
end
section
set_option Elab.async false
set_option linter.all false
set_option maxRecDepth 100000
set_option maxHeartbeats 4100000
namespace TQ
open LamX L2 PyProof.Rows PySem PySem.Spec
section
variable {base : Heap} {mg : Str → Option Value} {K : PySem.W.Frag} {P : Program} {w : World} {Pt : Addr}
theorem b2i_one {z : Nat} (h : z ≤ 1) : ((z : Nat) : Int) = b2i (z == 1) := by
  have : z = 0 ∨ z = 1 := by omega
  rcases this with e | e <;> subst e <;> rfl
theorem sc_make_var : FnScope ["registers", "told"] ["registers", "told"] (defScope s_make_var) := ⟨rfl, rfl, rfl, by decide +kernel, rfl, by decide +kernel, by decide +kernel⟩
theorem ok_make_var (D : IsDef K mg "make_var" s_make_var ["registers", "told"]) (dV : DefOk P w K mg base 2 "variable" spVariable) : DefOk P w K mg base 3 "make_var" (spFn K Pt 1) := by
  refine D.ok sc_make_var (fun vs H Q E h => sp_len h) (fun f cdv A outer s H vs Q E hr h => ?_)
  obtain ⟨rg, d, oa, X, o, s, refs, rfl, h, q⟩ := h
  have hu := hu_of hr
  obtain ⟨r, v, rfl⟩ := eq_of_len2 h.shape
  refine ⟨_, pss_one (ps_ret (pe_cl dV hr rfl (pa_cons (pe_dget hu (pv 1) pe_str (fun _ _ => rfl)) pa_nil))), ?_⟩
  refine rd_num h (j := 1) (by decide) rfl rfl ⟨_, rfl, fun H1 p s1 n1 e1 => ?_⟩
  refine q H1 p s1 n1 ?_
  rw [e1]
  exact congrArg (fun l => some (HO.lst l)) (tv_by _).symm
theorem sc_make_not : FnScope ["registers", "told"] ["registers", "told"] (defScope s_make_not) := ⟨rfl, rfl, rfl, by decide +kernel, rfl, by decide +kernel, by decide +kernel⟩
theorem ok_make_not (D : IsDef K mg "make_not" s_make_not ["registers", "told"]) (dO : DefOk P w K mg base 1 "opposite" (spOpposite K)) : DefOk P w K mg base 2 "make_not" (spFn K Pt 2) := by
  refine D.ok sc_make_not (fun vs H Q E h => sp_len h) (fun f cdv A outer s H vs Q E hr h => ?_)
  obtain ⟨rg, d, oa, X, o, s, refs, rfl, h, q⟩ := h
  have hu := hu_of hr
  obtain ⟨r, a, rfl⟩ := eq_of_len2 h.shape
  have hn := h.notR
  simp only [refN, Bool.or_eq_false_iff, decide_eq_false_iff_not] at hn
  refine ⟨_, pss_one (ps_ret (pe_cl dO hr rfl (pa_cons (pe_ix (show IxR _ (rIxL K) from ix_list) (pv 0) (pe_dget hu (pv 1) pe_str (fun _ _ => rfl)) (fun _ _ => rfl)) pa_nil))), ?_⟩
  refine rd_reg h (j := 1) (by decide) rfl rfl (by omega) fun pa ea => ?_
  refine ⟨_, _, rfl, SqL.of ea, fun H1 p s1 n1 e1 => ?_⟩
  refine q H1 p s1 n1 ?_
  rw [e1]
  exact congrArg (fun l => some (HO.lst l)) (tv_by _).symm
theorem sc_make_two : FnScope ["registers", "told"] ["registers", "told"] (defScope s_make_two) := ⟨rfl, rfl, rfl, by decide +kernel, rfl, by decide +kernel, by decide +kernel⟩
theorem ok_make_two (D : IsDef K mg "make_two" s_make_two ["registers", "told"]) (dJ : DefOk P w K mg base 2 "joined" (spJoined K)) : DefOk P w K mg base 3 "make_two" (spFn K Pt 3) := by
  refine D.ok sc_make_two (fun vs H Q E h => sp_len h) (fun f cdv A outer s H vs Q E hr h => ?_)
  obtain ⟨rg, d, oa, X, o, s, refs, rfl, h, q⟩ := h
  have hu := hu_of hr
  obtain ⟨r, op, a, b, rfl⟩ := eq_of_len4 h.shape
  have hn := h.notR
  simp only [refN, Bool.or_eq_false_iff, decide_eq_false_iff_not] at hn
  refine ⟨_, pss_one (ps_ret (pe_cl dJ hr rfl (pa_cons (pe_dget hu (pv 1) pe_str (fun _ _ => rfl)) (pa_cons (pe_ix (show IxR _ (rIxL K) from ix_list) (pv 0) (pe_dget hu (pv 1) pe_str (fun _ _ => rfl)) (fun _ _ => rfl)) (pa_cons (pe_ix (show IxR _ (rIxL K) from ix_list) (pv 0) (pe_dget hu (pv 1) pe_str (fun _ _ => rfl)) (fun _ _ => rfl)) pa_nil))))), ?_⟩
  refine rd_num h (j := 1) (by decide) rfl rfl ?_
  refine rd_reg h (j := 2) (by decide) rfl rfl (by omega) fun pa ea => ?_
  refine rd_reg h (j := 3) (by decide) rfl rfl (by omega) fun pb eb => ?_
  refine ⟨op, pa, pb, _, _, rfl, SqL.of ea, SqL.of eb, fun H1 p s1 n1 e1 => ?_⟩
  refine q H1 p s1 n1 ?_
  rw [e1]
  exact congrArg (fun l => some (HO.lst l)) (tv_by _).symm
theorem sc_make_choose : FnScope ["registers", "told"] ["registers", "told"] (defScope s_make_choose) := ⟨rfl, rfl, rfl, by decide +kernel, rfl, by decide +kernel, by decide +kernel⟩
theorem ok_make_choose (D : IsDef K mg "make_choose" s_make_choose ["registers", "told"]) (dC : DefOk P w K mg base 1 "chosen" (spChosen K)) : DefOk P w K mg base 2 "make_choose" (spFn K Pt 4) := by
  refine D.ok sc_make_choose (fun vs H Q E h => sp_len h) (fun f cdv A outer s H vs Q E hr h => ?_)
  obtain ⟨rg, d, oa, X, o, s, refs, rfl, h, q⟩ := h
  have hu := hu_of hr
  obtain ⟨r, a, b, c, rfl⟩ := eq_of_len4 h.shape
  have hn := h.notR
  simp only [refN, Bool.or_eq_false_iff, decide_eq_false_iff_not] at hn
  refine ⟨_, pss_one (ps_ret (pe_cl dC hr rfl (pa_cons (pe_ix (show IxR _ (rIxL K) from ix_list) (pv 0) (pe_dget hu (pv 1) pe_str (fun _ _ => rfl)) (fun _ _ => rfl)) (pa_cons (pe_ix (show IxR _ (rIxL K) from ix_list) (pv 0) (pe_dget hu (pv 1) pe_str (fun _ _ => rfl)) (fun _ _ => rfl)) (pa_cons (pe_ix (show IxR _ (rIxL K) from ix_list) (pv 0) (pe_dget hu (pv 1) pe_str (fun _ _ => rfl)) (fun _ _ => rfl)) pa_nil))))), ?_⟩
  refine rd_reg h (j := 1) (by decide) rfl rfl (by omega) fun pa ea => ?_
  refine rd_reg h (j := 2) (by decide) rfl rfl (by omega) fun pb eb => ?_
  refine rd_reg h (j := 3) (by decide) rfl rfl (by omega) fun pc ec => ?_
  refine ⟨pa, pb, pc, _, _, _, rfl, SqL.of ea, SqL.of eb, SqL.of ec, fun H1 p s1 n1 e1 => ?_⟩
  refine q H1 p s1 n1 ?_
  rw [e1]
  exact congrArg (fun l => some (HO.lst l)) (tv_by _).symm
theorem sc_make_fix : FnScope ["registers", "told"] ["registers", "told"] (defScope s_make_fix) := ⟨rfl, rfl, rfl, by decide +kernel, rfl, by decide +kernel, by decide +kernel⟩
theorem ok_make_fix (D : IsDef K mg "make_fix" s_make_fix ["registers", "told"]) (dF : DefOk P w K mg base 2 "fixed" (spFixed K)) : DefOk P w K mg base 3 "make_fix" (spFn K Pt 5) := by
  refine D.ok sc_make_fix (fun vs H Q E h => sp_len h) (fun f cdv A outer s H vs Q E hr h => ?_)
  obtain ⟨rg, d, oa, X, o, s, refs, rfl, h, q⟩ := h
  have hu := hu_of hr
  obtain ⟨r, a, v, z, rfl⟩ := eq_of_len4 h.shape
  have hn := h.notR
  simp only [refN, Bool.or_eq_false_iff, decide_eq_false_iff_not] at hn
  refine ⟨_, pss_one (ps_ret (pe_cl dF hr rfl (pa_cons (pe_ix (show IxR _ (rIxL K) from ix_list) (pv 0) (pe_dget hu (pv 1) pe_str (fun _ _ => rfl)) (fun _ _ => rfl)) (pa_cons (pe_dget hu (pv 1) pe_str (fun _ _ => rfl)) (pa_cons (pe_dget hu (pv 1) pe_str (fun _ _ => rfl)) pa_nil))))), ?_⟩
  refine rd_reg h (j := 1) (by decide) rfl rfl (by omega) fun pa ea => ?_
  refine rd_num h (j := 2) (by decide) rfl rfl ?_
  refine rd_num h (j := 3) (by decide) rfl rfl ?_
  refine ⟨pa, _, v, z == 1, by rw [b2i_one (show z ≤ 1 by omega)], SqL.of ea, by omega, fun H1 p s1 n1 e1 => ?_⟩
  refine q H1 p s1 n1 ?_
  rw [e1]
  exact congrArg (fun l => some (HO.lst l)) (tv_by _).symm
theorem sc_make_some : FnScope ["registers", "told"] ["registers", "told"] (defScope s_make_some) := ⟨rfl, rfl, rfl, by decide +kernel, rfl, by decide +kernel, by decide +kernel⟩
theorem ok_make_some (D : IsDef K mg "make_some" s_make_some ["registers", "told"]) (dF : DefOk P w K mg base 3 "for_either" (spFor K or)) : DefOk P w K mg base 4 "make_some" (spFn K Pt 6) := by
  refine D.ok sc_make_some (fun vs H Q E h => sp_len h) (fun f cdv A outer s H vs Q E hr h => ?_)
  obtain ⟨rg, d, oa, X, o, s, refs, rfl, h, q⟩ := h
  have hu := hu_of hr
  obtain ⟨r, a, v, rfl⟩ := eq_of_len3 h.shape
  have hn := h.notR
  simp only [refN, Bool.or_eq_false_iff, decide_eq_false_iff_not] at hn
  refine ⟨_, pss_one (ps_ret (pe_cl dF hr rfl (pa_cons (pe_ix (show IxR _ (rIxL K) from ix_list) (pv 0) (pe_dget hu (pv 1) pe_str (fun _ _ => rfl)) (fun _ _ => rfl)) (pa_cons (pe_dget hu (pv 1) pe_str (fun _ _ => rfl)) pa_nil)))), ?_⟩
  refine rd_reg h (j := 1) (by decide) rfl rfl (by omega) fun pa ea => ?_
  refine rd_num h (j := 2) (by decide) rfl rfl ?_
  refine ⟨pa, _, v, rfl, SqL.of ea, by omega, fun H1 p s1 n1 e1 => ?_⟩
  refine q H1 p s1 n1 ?_
  rw [e1]
  exact congrArg (fun l => some (HO.lst l)) (tv_by _).symm
theorem sc_make_all : FnScope ["registers", "told"] ["registers", "told"] (defScope s_make_all) := ⟨rfl, rfl, rfl, by decide +kernel, rfl, by decide +kernel, by decide +kernel⟩
theorem ok_make_all (D : IsDef K mg "make_all" s_make_all ["registers", "told"]) (dF : DefOk P w K mg base 3 "for_both" (spFor K and)) : DefOk P w K mg base 4 "make_all" (spFn K Pt 7) := by
  refine D.ok sc_make_all (fun vs H Q E h => sp_len h) (fun f cdv A outer s H vs Q E hr h => ?_)
  obtain ⟨rg, d, oa, X, o, s, refs, rfl, h, q⟩ := h
  have hu := hu_of hr
  obtain ⟨r, a, v, rfl⟩ := eq_of_len3 h.shape
  have hn := h.notR
  simp only [refN, Bool.or_eq_false_iff, decide_eq_false_iff_not] at hn
  refine ⟨_, pss_one (ps_ret (pe_cl dF hr rfl (pa_cons (pe_ix (show IxR _ (rIxL K) from ix_list) (pv 0) (pe_dget hu (pv 1) pe_str (fun _ _ => rfl)) (fun _ _ => rfl)) (pa_cons (pe_dget hu (pv 1) pe_str (fun _ _ => rfl)) pa_nil)))), ?_⟩
  refine rd_reg h (j := 1) (by decide) rfl rfl (by omega) fun pa ea => ?_
  refine rd_num h (j := 2) (by decide) rfl rfl ?_
  refine ⟨pa, _, v, rfl, SqL.of ea, by omega, fun H1 p s1 n1 e1 => ?_⟩
  refine q H1 p s1 n1 ?_
  rw [e1]
  exact congrArg (fun l => some (HO.lst l)) (tv_by _).symm
theorem sc_make_put : FnScope ["registers", "told"] ["registers", "told"] (defScope s_make_put) := ⟨rfl, rfl, rfl, by decide +kernel, rfl, by decide +kernel, by decide +kernel⟩
theorem ok_make_put (D : IsDef K mg "make_put" s_make_put ["registers", "told"]) (dF : DefOk P w K mg base 2 "put_for" (spPutFor K)) : DefOk P w K mg base 3 "make_put" (spFn K Pt 8) := by
  refine D.ok sc_make_put (fun vs H Q E h => sp_len h) (fun f cdv A outer s H vs Q E hr h => ?_)
  obtain ⟨rg, d, oa, X, o, s, refs, rfl, h, q⟩ := h
  have hu := hu_of hr
  obtain ⟨r, a, v, b, rfl⟩ := eq_of_len4 h.shape
  have hn := h.notR
  simp only [refN, Bool.or_eq_false_iff, decide_eq_false_iff_not] at hn
  refine ⟨_, pss_one (ps_ret (pe_cl dF hr rfl (pa_cons (pe_ix (show IxR _ (rIxL K) from ix_list) (pv 0) (pe_dget hu (pv 1) pe_str (fun _ _ => rfl)) (fun _ _ => rfl)) (pa_cons (pe_dget hu (pv 1) pe_str (fun _ _ => rfl)) (pa_cons (pe_ix (show IxR _ (rIxL K) from ix_list) (pv 0) (pe_dget hu (pv 1) pe_str (fun _ _ => rfl)) (fun _ _ => rfl)) pa_nil))))), ?_⟩
  refine rd_reg h (j := 1) (by decide) rfl rfl (by omega) fun pa ea => ?_
  refine rd_num h (j := 2) (by decide) rfl rfl ?_
  refine rd_reg h (j := 3) (by decide) rfl rfl (by omega) fun pb eb => ?_
  refine ⟨pa, pb, _, _, v, rfl, SqL.of ea, SqL.of eb, by omega, fun H1 p s1 n1 e1 => ?_⟩
  refine q H1 p s1 n1 ?_
  rw [e1]
  exact congrArg (fun l => some (HO.lst l)) (tv_by _).symm
end
end TQ
end
section
set_option Elab.async false
set_option linter.all false
set_option maxRecDepth 100000
set_option maxHeartbeats 4100000
namespace TQ
open LamX L2 PyProof.Rows PySem PySem.Spec
theorem vi_len (l : List Int) : (vi l).length = l.length := by simp [vi]
theorem vi_nv (l : List Nat) : vi (l.map Int.ofNat) = nv l := by
  unfold vi nv
  rw [List.map_map]
  rfl
theorem find_first {p q : Nat → Bool} {c : Nat} (hc : c < 1024) (hp : p c = true) (hq : q c = true) (hd : ∀ d, d < c → p d = true → q d = false) : ((List.range 1024).filter p).find? q = some c := by
  rw [List.find?_filter, List.find?_range_eq_some]
  refine ⟨by simp [hp, hq], List.mem_range.mpr hc, fun d hdc => ?_⟩
  cases e : p d
  · simp [e]
  · simp [e, hd d hdc e]
theorem find_none {p q : Nat → Bool} (h : ∀ c, c < 1024 → p c = true → q c = false) : ((List.range 1024).filter p).find? q = none := by
  rw [List.find?_eq_none]
  intro c hc
  obtain ⟨h1, h2⟩ := List.mem_filter.mp hc
  rw [h c (List.mem_range.mp h1) h2]
  decide
theorem ext_seq {K : PySem.W.Frag} {H H' : Hp} {a : Addr} {xs : List V} (e : ExtN H H') (h : SqL K H a xs) : SqL K H' a xs := by
  rcases h with (h | ⟨ob, h⟩) | h
  · exact .inl (.inl (e _ _ h (fun ps z => by cases z)))
  · exact .inl (.inr ⟨ob, e _ _ h (fun ps z => by cases z)⟩)
  · exact .inr h
theorem ext_free {H H' : Hp} {p : Addr} (e : ExtN H H') (h : H' p = none) (nt : ∀ ps, H p ≠ some (.tbl ps)) : H p = none := by
  cases q : H p with
  | none => rfl
  | some o =>
    rw [e p o q (fun ps z => nt ps (by rw [q, z]))] at h
    cases h
section
variable {base : Heap} {mg : Str → Option Value} {K : PySem.W.Frag} {P : Program} {w : World} {Pt : Addr}
/-! with_length -/
def spWl : Sp := fun vs H Q _ => ∃ (a : Addr) (l : List Int), vs = [.ref a] ∧ H a = some (.lst (vi l)) ∧ l.length ≤ 100000 ∧ newL H (vi (((l.length : Nat) : Int) :: l)) Q
theorem sc_with_length : FnScope ["numbers"] ["numbers"] (defScope s_with_length) := ⟨rfl, rfl, rfl, by decide +kernel, rfl, by decide +kernel, by decide +kernel⟩
theorem big1 : 1000000 < sizeLine := by rw [sizeLine_eq]; decide
theorem ok_with_length (D : IsDef K mg "with_length" s_with_length ["numbers"]) (mL : mg "len" = none) : DefOk P w K mg base 1 "with_length" spWl := by
  have big := big1
  refine D.ok sc_with_length (fun vs H Q E h => ?_) (fun f cdv A outer s H vs Q E hr h => ?_)
  · obtain ⟨a, l, rfl, _⟩ := h
    rfl
  · obtain ⟨a, l, rfl, ha, hl, q⟩ := h
    refine ⟨_, pss_one (ps_ret (pe_op op_cat (pe_lst (pa_cons (pe_callB call_len_seq (by rfl) mL PySem.boot_len (pa_cons (pv 0) pa_nil)) pa_nil)) (pv 0))), ?_⟩
    refine ⟨_, rfl, a, _, rfl, .inl (SqL.of ha), by show 1 ≤ sizeLine; decide, fun p hp => ?_⟩
    have hap : a ≠ p := ne_of_none ha hp
    refine ⟨_, rfl, p, a, _, _, rfl, rfl, upd_same, (by rw [upd_ne hap]; exact ha), by rw [vi_len]; show 1 + _ ≤ _; omega, fun p2 hp2 => ?_⟩
    refine q _ p2 (Same.upd (same_upd hp) hp2) ((same_upd hp).free hp2) ?_
    rw [upd_same, vi_len]
    rfl
theorem ok_answer_value_sc : FnScope ["registers", "told"] ["registers", "told"] (defScope s_answer_value) := ⟨rfl, rfl, rfl, by decide +kernel, rfl, by decide +kernel, by decide +kernel⟩
theorem ok_answer_value (D : IsDef K mg "answer_value" s_answer_value ["registers", "told"]) : DefOk P w K mg base 1 "answer_value" (spFn K Pt 9) := by
  refine D.ok ok_answer_value_sc (fun vs H Q E h => sp_len h) (fun f cdv A outer s H vs Q E hr h => ?_)
  obtain ⟨rg, d, oa, X, o, s, refs, rfl, h, q⟩ := h
  rw [if_neg (by decide)] at q
  replace q := fun H' p e t (n : H p = none) => q H' p e t (Free.of n)
  have hu := hu_of hr
  obtain ⟨a, m, rfl⟩ := eq_of_len2 h.shape
  have hn := h.notR
  simp only [refN, Bool.or_eq_false_iff, decide_eq_false_iff_not] at hn
  refine ⟨_, pss_one (ps_ret (pe_lst (pa_cons (pe_ix ix_list (pe_ix (show IxR _ (rIxL K) from ix_list) (pv 0) (pe_dget hu (pv 1) pe_str (fun _ _ => rfl)) (fun _ _ => rfl)) (pe_dget hu (pv 1) pe_str (fun _ _ => rfl)) (fun _ _ => rfl)) pa_nil))), ?_⟩
  refine rd_reg h (j := 0) (by decide) rfl rfl (by omega) fun pa ea => ?_
  refine rd_num h (j := 1) (by decide) rfl rfl ?_
  refine ⟨pa, _, _, _, rfl, rfl, SqL.of ea, atI_nat (tv_at _ (show m < 1024 by omega)), ?_⟩
  refine ⟨by show 1 ≤ sizeLine; decide, fun p hp => ?_⟩
  exact q _ p (ExtN.of (same_upd hp)) (h.tabs.ext (same_upd hp)) hp (by rw [upd_same]; rfl)
theorem sc_answer_count : FnScope ["registers", "told"] ["registers", "told"] (defScope s_answer_count) := ⟨rfl, rfl, rfl, by decide +kernel, rfl, by decide +kernel, by decide +kernel⟩
theorem ok_answer_count (D : IsDef K mg "answer_count" s_answer_count ["registers", "told"]) (dH : DefOk P w K mg base 1 "how_many" (spHowMany K)) : DefOk P w K mg base 2 "answer_count" (spFn K Pt 10) := by
  refine D.ok sc_answer_count (fun vs H Q E h => sp_len h) (fun f cdv A outer s H vs Q E hr h => ?_)
  obtain ⟨rg, d, oa, X, o, s, refs, rfl, h, q⟩ := h
  rw [if_neg (by decide)] at q
  replace q := fun H' p e t (n : H p = none) => q H' p e t (Free.of n)
  have hu := hu_of hr
  obtain ⟨a, rfl⟩ := eq_of_len1 h.shape
  have hn := h.notR
  simp only [refN, Bool.or_eq_false_iff, decide_eq_false_iff_not] at hn
  refine ⟨_, pss_one (ps_ret (pe_lst (pa_cons (pe_cl dH hr rfl (pa_cons (pe_ix (show IxR _ (rIxL K) from ix_list) (pv 0) (pe_dget hu (pv 1) pe_str (fun _ _ => rfl)) (fun _ _ => rfl)) pa_nil)) pa_nil))), ?_⟩
  refine rd_reg h (j := 0) (by decide) rfl rfl (by omega) fun pa ea => ?_
  refine ⟨pa, _, rfl, SqL.of ea, ?_⟩
  refine ⟨by show 1 ≤ sizeLine; decide, fun p hp => ?_⟩
  exact q _ p (ExtN.of (same_upd hp)) (h.tabs.ext (same_upd hp)) hp (by rw [upd_same]; rfl)
theorem sc_answer_first : FnScope ["registers", "told", "case"] ["registers", "told"] (defScope s_answer_first) := ⟨rfl, rfl, rfl, by decide +kernel, rfl, by decide +kernel, by decide +kernel⟩
theorem ok_answer_first (D : IsDef K mg "answer_first" s_answer_first ["registers", "told"]) (dF : DefOk P w K mg base 1 "first_yes" (spFirst K)) : DefOk P w K mg base 2 "answer_first" (spFn K Pt 11) := by
  refine D.ok sc_answer_first (fun vs H Q E h => sp_len h) (fun f cdv A outer s H vs Q E hr h => ?_)
  obtain ⟨rg, d, oa, X, o, s, refs, rfl, h, q⟩ := h
  rw [if_neg (by decide)] at q
  replace q := fun H' p e t (n : H p = none) => q H' p e t (Free.of n)
  have hu := hu_of hr
  have ndp := sc_answer_first.nd
  obtain ⟨a, m, rfl⟩ := eq_of_len2 h.shape
  have hn := h.notR
  simp only [refN, Bool.or_eq_false_iff, decide_eq_false_iff_not] at hn
  refine ⟨_, pss_cons (ps_set (i := 2) ndp rfl (Or.inl rfl) (pe_cl dF hr rfl (pa_cons (pe_ix (show IxR _ (rIxL K) from ix_list) (pv 0) (pe_dget hu (pv 1) pe_str (fun _ _ => rfl)) (fun _ _ => rfl)) (pa_cons (pe_dget hu (pv 1) pe_str (fun _ _ => rfl)) pa_nil))))
    (pss_cons (ps_if (pt_cmp (pc_isN (pv 2))) (pss_one (ps_ret (pe_lst (pa_cons (pe_un un_neg pe_int) pa_nil)))) pss_nil) (pss_one (ps_ret (pe_lst (pa_cons (pv 2) pa_nil))))), ?_⟩
  refine rd_reg h (j := 0) (by decide) rfl rfl (by omega) fun pa ea => ?_
  refine rd_num h (j := 1) (by decide) rfl rfl ?_
  refine ⟨pa, _, m, rfl, SqL.of ea, h.small m (by simp), fun c h1 h2 h3 h4 => ?_, fun hall => ?_⟩
  · refine ⟨_, rfl, _, rfl, iteF ⟨_, rfl, by show 1 ≤ sizeLine; decide, fun p hp => ?_⟩⟩
    refine q _ p (ExtN.of (same_upd hp)) (h.tabs.ext (same_upd hp)) hp ?_
    have e : (Diag.cases (Diag.reg s a)).find? (fun (k : Nat) => decide (m ≤ k)) = some c := find_first h2 h3 (by simpa using h1) fun d hd hv => by
      by_cases c' : m ≤ d
      · rw [h4 d c' hd] at hv
        cases hv
      · simpa using c'
    rw [upd_same]
    show _ = some (HO.lst (vi (match (Diag.cases (Diag.reg s a)).find? fun (k : Nat) => decide (m ≤ k) with | none => [-5] | some k => [(k : Int)])))
    rw [e]
    rfl
  · refine ⟨_, rfl, _, rfl, iteT ⟨5, rfl, by show 1 ≤ sizeLine; decide, fun p hp => ?_⟩⟩
    refine q _ p (ExtN.of (same_upd hp)) (h.tabs.ext (same_upd hp)) hp ?_
    have e : (Diag.cases (Diag.reg s a)).find? (fun (k : Nat) => decide (m ≤ k)) = none := find_none fun d hd hv => by
      by_cases c' : m ≤ d
      · rw [hall d c' hd] at hv
        cases hv
      · simpa using c'
    rw [upd_same]
    show _ = some (HO.lst (vi (match (Diag.cases (Diag.reg s a)).find? fun (k : Nat) => decide (m ≤ k) with | none => [-5] | some k => [(k : Int)])))
    rw [e]
    rfl
theorem sc_answer_matters : FnScope ["registers", "told", "variables"] ["registers", "told"] (defScope s_answer_matters) := ⟨rfl, rfl, rfl, by decide +kernel, rfl, by decide +kernel, by decide +kernel⟩
theorem ok_answer_matters (D : IsDef K mg "answer_matters" s_answer_matters ["registers", "told"]) (mL : mg "len" = none) (dM : DefOk P w K mg base 3 "mattering" (spMattering K)) (dW : DefOk P w K mg base 1 "with_length" spWl) : DefOk P w K mg base 4 "answer_matters" (spFn K Pt 12) := by
  have big := big1
  refine D.ok sc_answer_matters (fun vs H Q E h => sp_len h) (fun f cdv A outer s H vs Q E hr h => ?_)
  obtain ⟨rg, d, oa, X, o, s, refs, rfl, h, q⟩ := h
  rw [if_neg (by decide)] at q
  replace q := fun H' p e t (n : H p = none) => q H' p e t (Free.of n)
  have hu := hu_of hr
  have ndp := sc_answer_matters.nd
  obtain ⟨a, rfl⟩ := eq_of_len1 h.shape
  have hn := h.notR
  simp only [refN, Bool.or_eq_false_iff, decide_eq_false_iff_not] at hn
  refine ⟨_, pss_cons (ps_set (i := 2) ndp rfl (Or.inl rfl) (pe_cl dM hr rfl (pa_cons (pe_ix (show IxR _ (rIxL K) from ix_list) (pv 0) (pe_dget hu (pv 1) pe_str (fun _ _ => rfl)) (fun _ _ => rfl)) pa_nil)))
    (pss_one (ps_ret (pe_op op_cat (pe_lst (pa_cons (pe_callB call_len_seq (by rfl) mL PySem.boot_len (pa_cons (pv 2) pa_nil)) pa_nil)) (pe_cl dW (hr.mono (by decide)) rfl (pa_cons (pv 2) pa_nil))))), ?_⟩
  refine rd_reg h (j := 0) (by decide) rfl rfl (by omega) fun pa ea => ?_
  refine ⟨pa, _, rfl, SqL.of ea, fun H1 p1 s1 n1 e1 => ?_⟩
  rw [mattersG_eq] at e1
  have ml : (Diag.matters (Diag.reg s a)).length ≤ 10 := by
    have : (Diag.matters (Diag.reg s a)).length ≤ (List.range 10).length := List.length_filter_le _ _
    simpa using this
  refine ⟨_, rfl, p1, _, rfl, .inl (SqL.of e1), by show 1 ≤ sizeLine; decide, fun p2 hp2 => ?_⟩
  have h12 : p1 ≠ p2 := ne_of_none e1 hp2
  refine ⟨_, rfl, p1, (Diag.matters (Diag.reg s a)).map Int.ofNat, rfl, by rw [upd_ne h12, vi_nv]; exact e1, by rw [List.length_map]; omega, fun H3 p3 s3 n3 e3 => ?_⟩
  refine ⟨p2, p3, _, _, rfl, rfl, s3 _ _ upd_same, e3, by simp only [vi_len, List.length_cons, List.length_map, List.length_nil]; omega, fun p4 hp4 => ?_⟩
  have st : Same H (upd H3 p4 (.lst ([V.int ((nv (Diag.matters (Diag.reg s a))).length : Nat)] ++ vi ((((Diag.matters (Diag.reg s a)).map Int.ofNat).length : Nat) :: (Diag.matters (Diag.reg s a)).map Int.ofNat)))) := Same.upd ((Same.upd s1 hp2).trans s3) hp4
  refine q _ p4 (ExtN.of st) (h.tabs.ext st) (((Same.upd s1 hp2).trans s3).free hp4) ?_
  rw [upd_same, nv_len, List.length_map]
  rfl
theorem sc_answer_within : FnScope ["registers", "told", "case"] ["registers", "told"] (defScope s_answer_within) := ⟨rfl, rfl, rfl, by decide +kernel, rfl, by decide +kernel, by decide +kernel⟩
theorem ok_answer_within (D : IsDef K mg "answer_within" s_answer_within ["registers", "told"]) (dO : DefOk P w K mg base 3 "first_outside" (spOutside K)) (dW : DefOk P w K mg base 1 "with_length" spWl) : DefOk P w K mg base 4 "answer_within" (spFn K Pt 15) := by
  have big := big1
  refine D.ok sc_answer_within (fun vs H Q E h => sp_len h) (fun f cdv A outer s H vs Q E hr h => ?_)
  obtain ⟨rg, d, oa, X, o, s, refs, rfl, h, q⟩ := h
  rw [if_neg (by decide)] at q
  replace q := fun H' p e t (n : H p = none) => q H' p e t (Free.of n)
  have hu := hu_of hr
  have ndp := sc_answer_within.nd
  obtain ⟨a, b, rfl⟩ := eq_of_len2 h.shape
  have hn := h.notR
  simp only [refN, Bool.or_eq_false_iff, decide_eq_false_iff_not] at hn
  refine ⟨_, pss_cons (ps_set (i := 2) ndp rfl (Or.inl rfl) (pe_cl dO hr rfl (pa_cons (pe_ix (show IxR _ (rIxL K) from ix_list) (pv 0) (pe_dget hu (pv 1) pe_str (fun _ _ => rfl)) (fun _ _ => rfl)) (pa_cons (pe_ix (show IxR _ (rIxL K) from ix_list) (pv 0) (pe_dget hu (pv 1) pe_str (fun _ _ => rfl)) (fun _ _ => rfl)) pa_nil))))
    (pss_cons (ps_if (pt_cmp (pc_isN (pv 2))) (pss_one (ps_ret (pe_lst (pa_cons pe_int pa_nil)))) pss_nil)
    (pss_one (ps_ret (pe_op op_cat (pe_lst (pa_cons pe_int pa_nil)) (pe_cl dW (hr.mono (by decide)) rfl (pa_cons (pe_lst (pa_cons (pv 2) pa_nil)) pa_nil)))))), ?_⟩
  refine rd_reg h (j := 0) (by decide) rfl rfl (by omega) fun pa ea => ?_
  refine rd_reg h (j := 1) (by decide) rfl rfl (by omega) fun pb eb => ?_
  refine ⟨pa, pb, _, _, rfl, SqL.of ea, SqL.of eb, fun H1 c s1 h2 h3 h4 h5 => ?_, fun H1 s1 hall => ?_⟩
  · refine ⟨_, rfl, _, rfl, iteF ?_⟩
    refine ⟨by show 1 ≤ sizeLine; decide, fun p1 hp1 => ?_⟩
    refine ⟨_, rfl, by show 1 ≤ sizeLine; decide, fun p2 hp2 => ?_⟩
    have h12 : p1 ≠ p2 := ne_of_none upd_same hp2
    refine ⟨p2, [((c : Nat) : Int)], rfl, upd_same, by show 1 ≤ 100000; decide, fun H3 p3 s3 n3 e3 => ?_⟩
    have e1 : (upd (upd H1 p1 (.lst [V.int 0])) p2 (.lst [V.int ((c : Nat) : Int)])) p1 = some (.lst [V.int 0]) := by rw [upd_ne h12, upd_same]
    refine ⟨p1, p3, _, _, rfl, rfl, s3 _ _ e1, e3, by show 1 + 2 ≤ sizeLine; decide, fun p4 hp4 => ?_⟩
    have s03 : Same H H3 := ((Same.upd (Same.upd s1 hp1) hp2)).trans s3
    refine q _ p4 (ExtN.of (Same.upd s03 hp4)) (h.tabs.ext (Same.upd s03 hp4)) (s03.free hp4) ?_
    have e : (Diag.cases (Diag.reg s a)).find? (fun (k : Nat) => !Diag.value (Diag.reg s b) k) = some c := find_first h2 h3 (by rw [h4]; rfl) fun d hd hv => by rw [h5 d hd hv]; rfl
    rw [upd_same]
    show _ = some (HO.lst (vi (match (Diag.cases (Diag.reg s a)).find? fun (k : Nat) => !Diag.value (Diag.reg s b) k with | none => [1] | some k => [0, 1, (k : Int)])))
    rw [e]
    rfl
  · refine ⟨_, rfl, _, rfl, iteT ?_⟩
    refine ⟨by show 1 ≤ sizeLine; decide, fun p hp => ?_⟩
    refine q _ p (ExtN.of (Same.upd s1 hp)) (h.tabs.ext (Same.upd s1 hp)) (s1.free hp) ?_
    have e : (Diag.cases (Diag.reg s a)).find? (fun (k : Nat) => !Diag.value (Diag.reg s b) k) = none := find_none fun d hd hv => by rw [hall d hd hv]; rfl
    rw [upd_same]
    show _ = some (HO.lst (vi (match (Diag.cases (Diag.reg s a)).find? fun (k : Nat) => !Diag.value (Diag.reg s b) k with | none => [1] | some k => [0, 1, (k : Int)])))
    rw [e]
    rfl
end
end TQ
end
section
set_option Elab.async false
set_option linter.all false
set_option maxRecDepth 100000
set_option maxHeartbeats 4100000
namespace TQ
open LamX L2 PyProof.Rows PySem PySem.Spec
section
variable {base : Heap} {mg : Str → Option Value} {K : PySem.W.Frag} {P : Program} {w : World} {Pt : Addr}
theorem rowOf_by {o : List Nat} (ho : Diag.isOrder o = true) (f : Nat) : rowBy (Diag.value f) o = Diag.rowOf o f := casesOf_row ho f
theorem sc_answer_diagram : FnScope ["registers", "told", "order", "whole", "numbers", "begin"] ["registers", "told"] (defScope s_answer_diagram) := ⟨rfl, rfl, rfl, by decide +kernel, rfl, by decide +kernel, by decide +kernel⟩
theorem ok_answer_diagram (D : IsDef K mg "answer_diagram" s_answer_diagram ["registers", "told"]) (mL : mg "len" = none) (dW : DefOk P w K mg base 3 "whole_part" (spWhole K)) (dN : DefOk P w K mg base 16 "numbered_parts" spNumd) (dP : DefOk P w K mg base 1 "place_of" spPlace)
    (dT : DefOk P w K mg base 4 "nodes_told" (spTold K)) (dL : DefOk P w K mg base 1 "with_length" spWl) : DefOk P w K mg base 17 "answer_diagram" (spFn K Pt 13) := by
  have big := big1
  refine D.ok sc_answer_diagram (fun vs H Q E h => sp_len h) (fun f cdv A outer s H vs Q E hr h => ?_)
  obtain ⟨rg, d, oa, X, o, s, refs, rfl, h, q⟩ := h
  rw [if_neg (by decide)] at q
  replace q := fun H' p e t (n : H p = none) => q H' p e t (Free.of n)
  have hu := hu_of hr
  have ndp := sc_answer_diagram.nd
  obtain ⟨a, m, rfl⟩ := h.shape
  have hn := h.notR
  simp only [refN, Bool.or_eq_false_iff, decide_eq_false_iff_not, Bool.not_eq_false'] at hn
  obtain ⟨ho, ha⟩ := hn
  refine ⟨_, pss_cons (ps_set (i := 2) ndp rfl (Or.inl rfl) (pe_dget hu (pv 1) pe_str (fun _ _ => rfl)))
    (pss_cons (ps_set (i := 3) ndp rfl (Or.inl rfl) (pe_cl dW (hr.mono (by decide)) rfl (pa_cons (pe_ix (show IxR _ (rIxL K) from ix_list) (pv 0) (pe_dget hu (pv 1) pe_str (fun _ _ => rfl)) (fun _ _ => rfl)) (pa_cons (pv 2) pa_nil))))
    (pss_cons (ps_set (i := 4) ndp rfl (Or.inl rfl) (pe_cl dN hr rfl (pa_cons (pv 3) pa_nil)))
    (pss_cons (ps_set (i := 5) ndp rfl (Or.inl rfl) (pe_cl dP (hr.mono (by decide)) rfl (pa_cons (pv 3) (pa_cons (pv 4) pa_nil))))
    (pss_one (ps_ret (pe_op op_cat (pe_op op_cat (pe_lst (pa_cons (pe_callB call_len_dT (by rfl) mL PySem.boot_len (pa_cons (pv 4) pa_nil)) pa_nil)) (pe_cl dL (hr.mono (by decide)) rfl (pa_cons (pe_lst (pa_cons (pv 5) pa_nil)) pa_nil)))
      (pe_cl dL (hr.mono (by decide)) rfl (pa_cons (pe_cl dT (hr.mono (by decide)) rfl (pa_cons (pv 4) (pa_cons (pv 2) pa_nil))) pa_nil)))))))), ?_⟩
  -- the order
  have hoa := h.list rfl
  have hl2 : 2 ≤ ((a :: m :: o).map Int.ofNat).length := by simp
  have hg : DGet H d (.str "o") (some (.ref oa)) := by
    have := DGet.k (k := Sum.inr "o") h.dict
    rw [told_o hl2] at this
    exact this
  refine ⟨_, rfl, d, _, rfl, hg, ?_⟩
  -- the whole
  refine rd_reg h (j := 0) (by decide) rfl rfl (by omega) fun pa ea => ?_
  refine ⟨_, rfl, pa, oa, _, o, rfl, SqL.of ea, SqL.of hoa, isOrder_nodup ho, fun v hv => isOrder_lt ho hv, fun H1 p1 s1 e1 => ?_⟩
  rw [rowOf_by ho] at e1
  have rl := rowOf_len o (Diag.reg s a)
  generalize hF : Diag.reg s a = F at ea e1 rl
  obtain ⟨j, _, hj⟩ := tpd_of rl (Nat.le_refl _)
  -- the nodes
  refine ⟨_, rfl, p1, _, j, rfl, e1, hj, fun H2 p2 s2 n2 e2 => ?_⟩
  have en : Diag.meet (Diag.VARS + 1) [] (Diag.top Diag.VARS (Diag.rowOf o F)) = Diag.nodesOf o F := meet_top _ _ rl (Nat.le_refl _)
  rw [en] at e2
  obtain ⟨dn, cl⟩ := nodes_closed rl (Nat.le_refl _)
  have hlen : (Diag.nodesOf o F).length ≤ 1023 := by
    have := meet_len (Diag.VARS + 1) 10 [] (Diag.rowOf o F) rl (Nat.le_refl _)
    unfold Diag.nodesOf
    simpa using this
  -- where it begins
  refine ⟨_, rfl, _, rfl, p1, p2, _, j, Diag.nodesOf o F, rfl, s2 _ _ e1, hj, .inl e2, dn.elim (fun c => .inl (hj.const.mp c)) .inr, ?_⟩
  rw [← refT_of rl (Nat.le_refl _)]
  -- the answer
  refine ⟨_, rfl, p2, _, rfl, e2, ?_⟩
  rw [nd_len]
  refine ⟨by show 1 ≤ sizeLine; decide, fun q1 hq1 => ?_⟩
  refine ⟨_, rfl, by show 1 ≤ sizeLine; decide, fun q2 hq2 => ?_⟩
  refine ⟨q2, [((Diag.refOf (Diag.nodesOf o F) (Diag.rowOf o F) : Nat) : Int)], rfl, upd_same, by show 1 ≤ 100000; decide, fun H3 q3 s3 n3 e3 => ?_⟩
  have h12 : q1 ≠ q2 := ne_of_none upd_same hq2
  have sA : Same H2 H3 := (Same.upd (same_upd hq1) hq2).trans s3
  have e1' : H3 q1 = some (.lst [V.int (((Diag.nodesOf o F).length : Nat) : Int)]) := s3 _ _ (by rw [upd_ne h12, upd_same])
  refine ⟨q1, q3, _, _, rfl, rfl, e1', e3, by simp only [vi_len, List.length_cons, List.length_nil]; omega, fun q4 hq4 => ?_⟩
  refine ⟨_, rfl, _, rfl, ?_⟩
  have sB : Same H2 (upd H3 q4 (.lst ([V.int (((Diag.nodesOf o F).length : Nat) : Int)] ++ vi (((([((Diag.refOf (Diag.nodesOf o F) (Diag.rowOf o F) : Nat) : Int)] : List Int).length : Nat) : Int) :: [((Diag.refOf (Diag.nodesOf o F) (Diag.rowOf o F) : Nat) : Int)])))) := Same.upd sA hq4
  generalize hH4 : upd H3 q4 (.lst ([V.int (((Diag.nodesOf o F).length : Nat) : Int)] ++ vi (((([((Diag.refOf (Diag.nodesOf o F) (Diag.rowOf o F) : Nat) : Int)] : List Int).length : Nat) : Int) :: [((Diag.refOf (Diag.nodesOf o F) (Diag.rowOf o F) : Nat) : Int)]))) = H4 at sB
  have e4 : H4 q4 = some (.lst ([V.int (((Diag.nodesOf o F).length : Nat) : Int)] ++ vi (((([((Diag.refOf (Diag.nodesOf o F) (Diag.rowOf o F) : Nat) : Int)] : List Int).length : Nat) : Int) :: [((Diag.refOf (Diag.nodesOf o F) (Diag.rowOf o F) : Nat) : Int)]))) := by rw [← hH4, upd_same]
  have s04 : Same H H4 := (s1.trans s2).trans sB
  refine ⟨p2, oa, Diag.nodesOf o F, o, rfl, sB _ _ e2, SqL.of (s04 _ _ hoa), isOrder_len ho, by omega, cl, fun H5 q5 s5 n5 e5 => ?_⟩
  have ef : (Diag.diagram o F).flatMap node3 = (Diag.nodesOf o F).flatMap (nodeOf o (Diag.nodesOf o F)) := by
    show ((Diag.nodesOf o F).map _).flatMap node3 = _
    rw [List.flatMap_map]
    rfl
  have l5 : ((Diag.nodesOf o F).flatMap (nodeOf o (Diag.nodesOf o F))).length ≤ 3069 := by
    refine Nat.le_trans (flatMap_len _ 3 _ fun t _ => by simp [nodeOf]) ?_
    omega
  rw [← vi_nv] at e5
  refine ⟨q5, _, rfl, e5, by rw [List.length_map]; omega, fun H6 q6 s6 n6 e6 => ?_⟩
  have s46 := s5.trans s6
  refine ⟨q4, q6, _, _, rfl, rfl, s46 _ _ e4, e6, by simp only [vi_len, List.length_cons, List.length_nil, List.length_append, List.length_map]; omega, fun q7 hq7 => ?_⟩
  have s06 : Same H H6 := s04.trans s46
  refine q _ q7 (ExtN.of (Same.upd s06 hq7)) (h.tabs.ext (Same.upd s06 hq7)) (s06.free hq7) ?_
  rw [upd_same]
  refine congrArg (fun l => some (HO.lst l)) ?_
  show _ = vi (((Diag.diagram o (Diag.reg s a)).length : Int) :: 1 :: (Diag.root o (Diag.reg s a) : Int) :: (((Diag.diagram o (Diag.reg s a)).flatMap node3).length : Int) :: ((Diag.diagram o (Diag.reg s a)).flatMap node3).map Int.ofNat)
  rw [hF, ef]
  have ed : (Diag.diagram o F).length = (Diag.nodesOf o F).length := by simp [Diag.diagram]
  rw [ed, List.length_map]
  rfl
theorem sc_answer_best : FnScope ["registers", "told", "function", "variables", "order"] ["registers", "told"] (defScope s_answer_best) := ⟨rfl, rfl, rfl, by decide +kernel, rfl, by decide +kernel, by decide +kernel⟩
theorem ok_answer_best {t : Tok} (D : IsDef K mg "answer_best" s_answer_best ["registers", "told"]) (mL : mg "len" = none) (hM : mg "MOST_TO_ORDER" = some (.int 5 t)) (dM : DefOk P w K mg base 3 "mattering" (spMattering K)) (dB : DefOk P w K mg base 20 "best_order" (spBest K Pt))
    (dC : DefOk P w K mg base 17 "how_many_nodes" (spCount K)) (dL : DefOk P w K mg base 1 "with_length" spWl) : DefOk P w K mg base 21 "answer_best" (spFn K Pt 14) := by
  have big := big1
  refine D.ok sc_answer_best (fun vs H Q E h => sp_len h) (fun f cdv A outer s H vs Q E hr h => ?_)
  obtain ⟨rg, d, oa, X, o, s, refs, rfl, h, q⟩ := h
  rw [if_neg (by decide)] at q
  have hu := hu_of hr
  have ndp := sc_answer_best.nd
  obtain ⟨a, rfl⟩ := eq_of_len1 h.shape
  have hn := h.notR
  simp only [refN, Bool.or_eq_false_iff, decide_eq_false_iff_not] at hn
  refine ⟨_, pss_cons (ps_set (i := 2) ndp rfl (Or.inl rfl) (pe_ix (show IxR _ (rIxL K) from ix_list) (pv 0) (pe_dget hu (pv 1) pe_str (fun _ _ => rfl)) (fun _ _ => rfl)))
    (pss_cons (ps_set (i := 3) ndp rfl (Or.inl rfl) (pe_cl dM (hr.mono (by decide)) rfl (pa_cons (pv 2) pa_nil)))
    (pss_cons (ps_if (pt_cmpR op_gt (pe_callB call_len_seq (by rfl) mL PySem.boot_len (pa_cons (pv 3) pa_nil)) (pe_glob (v := .int 5) rfl hM ⟨_, rfl⟩) (nomark _)) (pss_one (ps_ret (pe_lst (pa_cons (pe_un un_neg pe_int) pa_nil)))) pss_nil)
    (pss_cons (ps_set (i := 4) ndp rfl (Or.inl rfl) (pe_cl dB hr rfl (pa_cons (pv 2) (pa_cons (pv 3) pa_nil))))
    (pss_one (ps_ret (pe_op op_cat (pe_lst (pa_cons (pe_cl dC (hr.mono (by decide)) rfl (pa_cons (pv 2) (pa_cons (pv 4) pa_nil))) pa_nil)) (pe_cl dL (hr.mono (by decide)) rfl (pa_cons (pv 4) pa_nil)))))))), ?_⟩
  refine rd_reg h (j := 0) (by decide) rfl rfl (by omega) fun pa ea => ?_
  refine ⟨_, rfl, pa, _, rfl, SqL.of ea, fun H1 p1 s1 n1 e1 => ?_⟩
  rw [mattersG_eq] at e1
  refine ⟨_, rfl, p1, _, rfl, .inl (SqL.of e1), _, _, rfl, rfl, _, rfl, ?_⟩
  rw [nv_len]
  by_cases c : 5 < (Diag.matters (Diag.reg s a)).length
  · rw [decide_eq_true (show (5 : Int) < (((Diag.matters (Diag.reg s a)).length : Nat) : Int) by omega)]
    refine iteT ⟨6, rfl, by show 1 ≤ sizeLine; decide, fun p hp => ?_⟩
    refine q _ p (ExtN.of (Same.upd s1 hp)) (h.tabs.ext (Same.upd s1 hp)) (Free.of (s1.free hp)) ?_
    rw [upd_same]
    show _ = some (HO.lst (vi (if Diag.FEW < (Diag.matters (Diag.reg s a)).length then [-6] else _)))
    rw [if_pos (show Diag.FEW < _ from c)]
    rfl
  · rw [decide_eq_false (show ¬ (5 : Int) < (((Diag.matters (Diag.reg s a)).length : Nat) : Int) by omega)]
    refine iteF ?_
    refine ⟨_, rfl, _, rfl, pa, p1, _, Diag.matters (Diag.reg s a), rfl, SqL.of (s1 _ _ ea), SqL.of e1, matters_nodup _, fun v hv => matters_lt hv, by omega, h.tabs.ext s1, fun H2 p2 i r eN hT2 hr1 hmin e2 => ?_⟩
    have keep : ∀ (b : Addr) (xs : List V), H1 b = some (.lst xs) → H2 b = some (.lst xs) := fun b xs e => eN _ _ e (fun ps z => by cases z)
    have hb : Diag.best (Diag.reg s a) = (r, cntS (Diag.reg s a) r) := best_first hr1 hmin
    obtain ⟨rn, rs, rl⟩ := arranged_mem _ _ (matters_nodup _) r (List.mem_of_getElem? hr1)
    refine ⟨_, rfl, _, rfl, pa, p2, _, r, rfl, SqL.of (keep _ _ (s1 _ _ ea)), SqL.of e2, rn, fun v hv => matters_lt (rs v hv), fun H3 s3 => ?_⟩
    refine ⟨by show 1 ≤ sizeLine; decide, fun q1 hq1 => ?_⟩
    have e2' : (upd H3 q1 (.lst [V.int ((cntG (Diag.value (Diag.reg s a)) r : Nat) : Int)])) p2 = some (.lst (nv r)) := (same_upd hq1) _ _ (s3 _ _ e2)
    refine ⟨_, rfl, p2, r.map Int.ofNat, rfl, by rw [vi_nv]; exact e2', by rw [List.length_map]; omega, fun H4 q4 s4 n4 e4 => ?_⟩
    refine ⟨q1, q4, _, _, rfl, rfl, s4 _ _ upd_same, e4, by simp only [vi_len, List.length_cons, List.length_nil, List.length_map]; omega, fun q5 hq5 => ?_⟩
    have s24 : Same H2 H4 := ((Same.upd s3 hq1)).trans s4
    have e04 : ExtN H H4 := (ExtN.of s1).trans (eN.trans (ExtN.of s24))
    have e05 : ExtN H (upd H4 q5 (.lst ([V.int ((cntG (Diag.value (Diag.reg s a)) r : Nat) : Int)] ++ vi (((r.map Int.ofNat).length : Nat) :: r.map Int.ofNat)))) := e04.trans (ExtN.of (same_upd hq5))
    refine q _ q5 e05 (hT2.ext (Same.upd s24 hq5)) (Free.ext e04 hq5) ?_
    · rw [upd_same]
      show _ = some (HO.lst (vi (if Diag.FEW < (Diag.matters (Diag.reg s a)).length then [-6] else ((Diag.best (Diag.reg s a)).2 : Int) :: ((Diag.best (Diag.reg s a)).1.length : Int) :: (Diag.best (Diag.reg s a)).1.map Int.ofNat)))
      rw [if_neg (show ¬ Diag.FEW < _ from c), hb, List.length_map]
      rfl
end
end TQ
end
section
set_option Elab.async false
set_option linter.all false
set_option maxRecDepth 100000
set_option maxHeartbeats 4100000
namespace TQ
open LamX L2 PyProof.Rows PySem PySem.Spec
theorem DefOk.mono {P : Program} {w : World} {K : PySem.W.Frag} {mg : Str → Option Value} {base : Heap} {j k : Nat} {x : Str} {sp : Sp} (D : DefOk P w K mg base j x sp) (h : j ≤ k) : DefOk P w K mg base k x sp := by
  obtain ⟨f, fd, ps, F, g, kp, b⟩ := D.ex
  exact ⟨f, fd, ps, F.mono h, g, kp, b⟩
theorem nm_cnum {i : Nat} (hi : i < 16) : (nm i).length = cnum i := by
  have c : ((List.range 16).all fun i => decide ((nm i).length = cnum i)) = true := by decide +kernel
  simpa using List.all_eq_true.mp c i (List.mem_range.mpr hi)
theorem nm_r {i : Nat} (hi : i < 9) : (nm i)[0]? = some ("r" : Str) := by
  have c : ((List.range 9).all fun i => decide ((nm i)[0]? = some ("r" : Str))) = true := by decide +kernel
  simpa using List.all_eq_true.mp c i (List.mem_range.mpr hi)
theorem nm_nor {i : Nat} (h9 : 9 ≤ i) (hi : i < 16) : ("r" : Str) ∉ nm i := by
  have c : ((List.range 16).all fun i => decide (i < 9) || decide (("r" : Str) ∉ nm i)) = true := by decide +kernel
  have := List.all_eq_true.mp c i (List.mem_range.mpr hi)
  rw [decide_eq_false (show ¬ i < 9 by omega), Bool.false_or] at this
  simpa using this
theorem ref_r {i : Nat} (hi : i < 9) {X o : List Nat} (hX : ShapeOk i X o) (hn : refN o i X = false) : ∃ r, X[0]? = some r ∧ X.headD 0 = r ∧ r ≤ 15 := by
  have c : i = 0 ∨ i = 1 ∨ i = 2 ∨ i = 3 ∨ i = 4 ∨ i = 5 ∨ i = 6 ∨ i = 7 ∨ i = 8 := by omega
  rcases c with e | e | e | e | e | e | e | e | e <;> subst e
  · obtain ⟨r, z, rfl⟩ := eq_of_len2 hX
    simp only [refN, Bool.or_eq_false_iff, decide_eq_false_iff_not] at hn
    exact ⟨r, rfl, rfl, by omega⟩
  · obtain ⟨r, z, rfl⟩ := eq_of_len2 hX
    simp only [refN, Bool.or_eq_false_iff, decide_eq_false_iff_not] at hn
    exact ⟨r, rfl, rfl, by omega⟩
  · obtain ⟨r, z, rfl⟩ := eq_of_len2 hX
    simp only [refN, Bool.or_eq_false_iff, decide_eq_false_iff_not] at hn
    exact ⟨r, rfl, rfl, by omega⟩
  · obtain ⟨r, z, _, _, rfl⟩ := eq_of_len4 hX
    simp only [refN, Bool.or_eq_false_iff, decide_eq_false_iff_not] at hn
    exact ⟨r, rfl, rfl, by omega⟩
  · obtain ⟨r, z, _, _, rfl⟩ := eq_of_len4 hX
    simp only [refN, Bool.or_eq_false_iff, decide_eq_false_iff_not] at hn
    exact ⟨r, rfl, rfl, by omega⟩
  · obtain ⟨r, z, _, _, rfl⟩ := eq_of_len4 hX
    simp only [refN, Bool.or_eq_false_iff, decide_eq_false_iff_not] at hn
    exact ⟨r, rfl, rfl, by omega⟩
  · obtain ⟨r, z, _, rfl⟩ := eq_of_len3 hX
    simp only [refN, Bool.or_eq_false_iff, decide_eq_false_iff_not] at hn
    exact ⟨r, rfl, rfl, by omega⟩
  · obtain ⟨r, z, _, rfl⟩ := eq_of_len3 hX
    simp only [refN, Bool.or_eq_false_iff, decide_eq_false_iff_not] at hn
    exact ⟨r, rfl, rfl, by omega⟩
  · obtain ⟨r, z, _, _, rfl⟩ := eq_of_len4 hX
    simp only [refN, Bool.or_eq_false_iff, decide_eq_false_iff_not] at hn
    exact ⟨r, rfl, rfl, by omega⟩
/-- what stands, but the registers' list and the tables -/
def ExtBut (rg : Addr) (H H' : Hp) : Prop := ∀ b o, b ≠ rg → H b = some o → (∀ ps, o ≠ .tbl ps) → H' b = some o
section
variable {base : Heap} {mg : Str → Option Value} {K : PySem.W.Frag} {P : Program} {w : World} {Pt ca : Addr} {ra na fa : Nat → Addr}
/-! new_registers -/
def spNewRegs : Sp := fun vs H Q _ => vs = [] ∧ ∀ (H' : Hp) (rg : Addr) (refs : List Addr), Same H H' → H rg = none → Regs H' rg Diag.start refs → Q (.ref rg) H'
theorem sc_new_registers : FnScope [] [] (defScope s_new_registers) := ⟨rfl, rfl, rfl, by decide +kernel, rfl, by decide +kernel, by decide +kernel⟩
theorem ok_new_registers {t : Tok} (D : IsDef K mg "new_registers" s_new_registers []) (hC : mg "REGISTERS" = some (.int 16 t)) (dE : DefOk P w K mg base 1 "everywhere" spEverywhere) : DefOk P w K mg base 2 "new_registers" spNewRegs := by
  refine D.ok sc_new_registers (fun vs H Q E h => ?_) (fun f cdv A outer s H vs Q E hr h => ?_)
  · obtain ⟨rfl, _⟩ := h
    rfl
  · obtain ⟨rfl, q⟩ := h
    refine ⟨_, pss_one (ps_ret (pe_op op_rep (pe_lst (pa_cons (pe_cl dE hr rfl (pa_cons pe_int pa_nil)) pa_nil)) (pe_glob (v := .int 16) rfl hC ⟨_, rfl⟩))), ?_⟩
    refine ⟨0, rfl, fun H1 p1 s1 n1 e1 => ?_⟩
    refine ⟨by show 1 ≤ sizeLine; decide, fun l hl => ?_⟩
    refine ⟨_, _, _, rfl, rfl, upd_same, by decide, by decide, by show 1 * 16 ≤ sizeLine; decide, fun p hp => ?_⟩
    have s2 : Same H1 (upd (upd H1 l (.lst [.ref p1])) p (.lst (List.replicate (16 : Int).toNat [V.ref p1]).flatten)) := Same.upd (same_upd hl) hp
    refine q _ p (List.replicate 16 p1) (s1.trans s2) (s1.free ((same_upd hl).free hp)) ⟨?_, by simp, rfl, fun i q hq => ?_⟩
    · rw [upd_same]
      exact congrArg (fun l => some (HO.lst l)) (by simp)
    · have e : q = p1 := List.eq_of_mem_replicate (List.mem_of_getElem? hq)
      rw [e, s2 _ _ e1]
      have e0 : Diag.start.getD i 0 = 0 := by
        unfold Diag.start
        rw [List.getD_eq_getElem?_getD, List.getElem?_replicate]
        split <;> rfl
      rw [e0]
      refine congrArg (fun l => some (HO.lst l)) ?_
      show List.replicate 1024 (V.int 0) = vi (tb (Diag.value 0))
      have : tb (Diag.value 0) = List.replicate 1024 0 := by
        unfold tb
        rw [show (fun m => b2i (Diag.value 0 m)) = fun _ => (0 : Int) from funext fun m => by simp [Diag.value, b2i], List.map_const', List.length_range]
      rw [this]
      simp [vi]
/-! end_of_call -/
def spEnd (K : PySem.W.Frag) : Sp := fun vs H Q _ => ∃ (a : Addr) (l : List Int) (at_ i m : Nat), vs = [.ref a, .int at_] ∧ SqL K H a (vi l) ∧ i < 16 ∧ l[at_]? = some ((i : Nat) : Int) ∧ (i = 13 → l[at_ + 2]? = some ((m : Nat) : Int)) ∧
  Q (.int ((at_ + 1 + cnum i + (if i = 13 then m else 0) : Nat) : Int)) H
theorem vi_at {l : List Int} {i : Nat} {n : Int} (h : l[i]? = some n) : (vi l)[i]? = some (.int n) := by
  unfold vi
  rw [List.getElem?_map, h]
  rfl
theorem sc_end_of_call : FnScope ["calls", "at", "number", "end"] ["calls", "at"] (defScope s_end_of_call) := ⟨rfl, rfl, rfl, by decide +kernel, rfl, by decide +kernel, by decide +kernel⟩
theorem ok_end_of_call {t : Tok} (D : IsDef K mg "end_of_call" s_end_of_call ["calls", "at"]) (T : CallsT K mg ca ra na fa) (mL : mg "len" = none) (hDI : mg "DIAGRAM" = some (.int 13 t)) : DefOk P w K mg base 1 "end_of_call" (spEnd K) := by
  refine D.ok sc_end_of_call (fun vs H Q E h => ?_) (fun f cdv A outer s H vs Q E hr h => ?_)
  · obtain ⟨a, l, at_, i, m, rfl, _⟩ := h
    rfl
  · obtain ⟨a, l, at_, i, m, rfl, ha, hi, hat, hm, q⟩ := h
    have ndp := sc_end_of_call.nd
    refine ⟨_, pss_cons (ps_set (i := 2) ndp rfl (Or.inl rfl) (pe_ix ix_list (pv 0) (pv 1) (fun _ _ => rfl)))
      (pss_cons (ps_set (i := 3) ndp rfl (Or.inl rfl) (pe_op op_add (pe_op op_add (pv 1) pe_int) (pe_callB call_len_seq (by rfl) mL PySem.boot_len (pa_cons (pe_ix ix_tup (pe_ix ix_tup (pe_glob (v := .ref ca) rfl T.gl rfl) (pv 2) (fun _ _ => rfl)) pe_int (fun _ _ => rfl)) pa_nil))))
      (pss_cons (ps_if (pt_cmpR op_eq (pv 2) (pe_glob (v := .int 13) rfl hDI ⟨_, rfl⟩) (nomark _)) (pss_one (ps_ret (pe_op op_add (pv 3) (pe_ix ix_list (pv 0) (pe_op op_sub (pv 3) pe_int) (fun _ _ => rfl))))) pss_nil)
      (pss_one (ps_ret (pv 3))))), ?_⟩
    refine ⟨_, rfl, _, rfl, a, _, _, _, rfl, rfl, ha, atI_nat (vi_at hat), ?_⟩
    refine ⟨_, rfl, _, _, rfl, rfl, _, rfl, ca, _, _, _, rfl, rfl, T.all H, atI_nat (T.at_ hi), ?_⟩
    refine ⟨ra i, _, 0, _, rfl, rfl, T.row i hi H, rfl, ?_⟩
    refine ⟨na i, _, rfl, .inr (T.names i hi H), _, _, rfl, rfl, ?_⟩
    refine ⟨_, rfl, rfl, _, rfl, ?_⟩; rw [List.length_map, nm_cnum hi]
    by_cases c : i = 13
    · subst c
      refine iteT ?_
      refine ⟨_, rfl, _, rfl, _, rfl, _, _, rfl, rfl, ?_⟩
      have e : ((at_ : Nat) : Int) + 1 + ((cnum 13 : Nat) : Int) - 1 = ((at_ + 2 : Nat) : Int) := by
        show ((at_ : Nat) : Int) + 1 + ((2 : Nat) : Int) - 1 = _
        omega
      refine ⟨a, _, _, .int ((m : Nat) : Int), rfl, rfl, ha, (by rw [e]; exact atI_nat (vi_at (hm rfl))), _, _, rfl, rfl, ?_⟩
      rw [if_pos rfl] at q
      dsimp only
      have e2 : ((at_ : Nat) : Int) + 1 + ((cnum 13 : Nat) : Int) + ((m : Nat) : Int) = ((at_ + 1 + cnum 13 + m : Nat) : Int) := by omega
      rw [e2]
      exact q
    · rw [decide_eq_false (show ¬ V.int ((i : Nat) : Int) = V.int 13 from fun z => by have := V.int.inj z; omega)]
      refine iteF ⟨_, rfl, ?_⟩
      rw [if_neg c] at q
      dsimp only
      have e2 : ((at_ : Nat) : Int) + 1 + ((cnum i : Nat) : Int) = ((at_ + 1 + cnum i + 0 : Nat) : Int) := by omega
      rw [e2]
      exact q
/-! answered -/
/-- a call is answered: a list of its numbers; of what stood the registers' list alone is another -/
def spAnswered (K : PySem.W.Frag) (Pt : Addr) : Sp := fun vs H Q _ => ∃ (rg l : Addr) (i : Nat) (X o : List Nat) (s : Diag.State) (refs : List Addr), vs = [.ref rg, .int i, .ref l] ∧ i < 16 ∧ Regs H rg s refs ∧ SqL K H l (vi (X.map Int.ofNat)) ∧ ShapeOk i X o ∧
  (∀ x ∈ X, x < 9223372036854775808) ∧ Tabs [(Pt, lamQ)] H ∧
  ∀ (H' : Hp) (p : Addr) (refs' : List Addr), ExtBut rg H H' → Tabs [(Pt, lamQ)] H' → Regs H' rg (stepN s o i X).1 refs' → (∀ q ∈ refs', q ∈ refs ∨ Free H q) → Free H p → p ≠ rg → H' p = some (.lst (vi (stepN s o i X).2)) → Q (.ref p) H'
theorem sc_answered : FnScope ["registers", "number", "numbers", "told", "carry_out", "found"] ["registers", "number", "numbers"] (defScope s_answered) := ⟨rfl, rfl, rfl, by decide +kernel, rfl, by decide +kernel, by decide +kernel⟩
theorem ExtBut.of {rg : Addr} {H H' : Hp} (e : ExtN H H') : ExtBut rg H H' := fun b o _ h n => e b o h n
theorem ixN_nat {n k : Nat} (h : k < n) : ixN n ((k : Nat) : Int) = some k := by
  unfold ixN
  rw [if_pos (by omega), if_pos (by omega), Int.toNat_natCast]
theorem ok_answered (D : IsDef K mg "answered" s_answered ["registers", "number", "numbers"]) (T : CallsT K mg ca ra na fa) (dT : DefOk P w K mg base 1 "told_by" (spToldBy K)) (dR : DefOk P w K mg base 2 "is_refused" (spRef K)) (dH : DefOk P w K mg base 1 "how_many" (spHowMany K))
    (dF : ∀ i, i < 16 → DefOk P w K mg base 21 (fnm i) (spFn K Pt i)) : DefOk P w K mg base 22 "answered" (spAnswered K Pt) := by
  refine D.ok sc_answered (fun vs H Q E h => ?_) (fun f cdv A outer s_ H vs Q E hr h => ?_)
  · obtain ⟨rg, l, i, X, o, s, refs, rfl, _⟩ := h
    rfl
  · obtain ⟨rg, l, i, X, o, s, refs, rfl, hi, R, hl, hX, hsm, hT, q⟩ := h
    have ndp := sc_answered.nd
    have hu := hu_of hr
    have hr1 := hr.mono (show 1 ≤ 21 by decide)
    have hr2 := hr.mono (show 2 ≤ 21 by decide)
    obtain ⟨fx, fd, ps, F, g, kp, b⟩ := (dF i hi).ex
    have hfx : fx = fa i := by
      have := T.fns i hi
      rw [g] at this
      cases this
      rfl
    subst hfx
    refine ⟨_, pss_cons (ps_set (i := 3) ndp rfl (Or.inl rfl) (pe_cl dT hr1 rfl (pa_cons (pv 1) (pa_cons (pv 2) pa_nil))))
      (pss_cons (ps_if (pt_val (pe_cl dR hr2 rfl (pa_cons (pv 3) pa_nil))) (pss_one (ps_ret (pe_lst (pa_cons (pe_un un_neg pe_int) pa_nil)))) pss_nil)
      (pss_cons (ps_set (i := 4) ndp rfl (Or.inl rfl) (pe_ix ix_tup (pe_ix ix_tup (pe_glob (v := .ref ca) rfl T.gl rfl) (pv 1) (fun _ _ => rfl)) pe_int (fun _ _ => rfl)))
      (pss_cons (ps_set (i := 5) ndp rfl (Or.inl rfl) (pe_callL (i := 4) (dvs := []) (E := E0) F hr rfl (Or.inl rfl) kp b .nil pass0 (pa_cons (pv 0) (pa_cons (pv 3) pa_nil))))
      (pss_cons (ps_if (pt_cmp (pc_din hu pe_str (pv 3)))
        (pss_cons (ps_asg (pv 5) (pg_sub (pv 0) (pe_dget hu (pv 3) pe_str (fun _ _ => rfl)) set_list)) (pss_one (ps_ret (pe_lst (pa_cons (pe_cl dH hr1 rfl (pa_cons (pv 5) pa_nil)) pa_nil))))) pss_nil)
      (pss_one (ps_ret (pv 5))))))), ?_⟩
    -- told
    have hnl := nm_len hi hX
    refine ⟨_, rfl, _, rfl, i, l, X.map Int.ofNat, rfl, hi, hl, hnl, fun H1 d oa s1 nd1 ed eo => ?_⟩
    have eo' : i = 13 → H1 oa = some (.lst (nv o)) := fun e => by
      have h1 := eo e
      subst e
      obtain ⟨a, m, rfl⟩ := hX
      rw [← vi_nv]
      exact h1
    -- refused?
    refine ⟨_, rfl, i, d, oa, X.map Int.ofNat, o, rfl, hi, hnl, ed, eo', fun H2 s2 => ⟨_, rfl, ?_⟩⟩
    rw [rfB_eq hi hX]
    have s02 := s1.trans s2
    cases hn : refN o i X
    · refine iteF ?_
      have es : stepN s o i X = if i < 9 then (s.set (X.headD 0) (fnOf s i X), [((Diag.cases (fnOf s i X)).length : Int)]) else (s, ansOf s o i X) := by
        unfold stepN
        rw [hn, if_neg (by decide)]
      have hd2 : H2 d = some (.dK (toldK i (X.map Int.ofNat) oa)) := s2 _ _ ed
      have hand : Handed Pt i H2 rg d oa X o s refs := ⟨R.same s02, hd2, hX, fun e => s2 _ _ (eo' e), hsm, hn, hT.ext s02⟩
      refine ⟨_, rfl, ca, _, _, _, rfl, rfl, T.all H2, atI_nat (T.at_ hi), ?_⟩
      refine ⟨ra i, _, 1, _, rfl, rfl, T.row i hi H2, rfl, ?_⟩
      refine ⟨rfl, _, rfl, _, rfl, ?_⟩
      refine ⟨rg, d, oa, X, o, s, refs, rfl, hand, ?_⟩
      by_cases c : i < 9
      · rw [if_pos c]
        rw [if_pos c] at es
        intro H3 p3 s3 n3 e3
        obtain ⟨r, hr0, hhd, hr15⟩ := ref_r c hX hn
        have hand3 := hand.same s3
        have hrx : (X.map Int.ofNat)[0]? = some ((r : Nat) : Int) := by rw [List.getElem?_map, hr0]; rfl
        have hv : valV (toldK i (X.map Int.ofNat) oa) (Sum.inr "r") = some (.int ((r : Nat) : Int)) := told_get hi hnl (nm_r c) hrx
        refine ⟨_, rfl, d, _, rfl, DGet.k (k := Sum.inr "r") hand3.dict, _, rfl, ?_⟩
        rw [hv]
        refine iteT ?_
        have hlen := R.len
        have hrg3 := hand3.regs.at_
        refine ⟨_, rfl, _, rfl, _, rfl, d, _, rfl, dget_told hand3.dict hi hnl (nm_r c) hrx, ?_⟩
        refine ⟨rg, _, _, r, rfl, rfl, hrg3, by rw [List.length_map, hlen]; exact ixN_nat (by omega), ?_⟩
        have hp3 : p3 ≠ rg := fun z => by
          rw [z] at n3
          rw [hand.regs.at_] at n3
          cases n3
        generalize hH4 : upd H3 rg (.lst ((refs.map V.ref).set r (V.ref p3))) = H4
        have k4 : ∀ b o, b ≠ rg → H3 b = some o → H4 b = some o := fun b o nb e => by rw [← hH4, upd_ne nb]; exact e
        have e4 : H4 p3 = some (.lst (tv (Diag.value (fnOf s i X)))) := k4 _ _ hp3 e3
        refine ⟨_, rfl, p3, _, rfl, SqL.of e4, ?_⟩
        refine ⟨by show 1 ≤ sizeLine; decide, fun p5 hp5 => ?_⟩
        have hT4 : Tabs [(Pt, lamQ)] H4 := fun x hx => by
          obtain ⟨ps', a1, a2, a3⟩ := hand3.tabs x hx
          refine ⟨ps', k4 _ _ (ne_of a1 hrg3 (by intro z; cases z)) a1, a2, fun pos cv hcv => ?_⟩
          obtain ⟨c0, h1, h2⟩ := a3 pos cv hcv
          exact ⟨c0, h1, k4 _ _ (ne_of h2 hrg3 (by intro z; unfold CodeO at z; cases z)) h2⟩
        have s03 := s02.trans s3
        have rg5 : p5 ≠ rg := fun z => by
          rw [z, ← hH4, upd_same] at hp5
          cases hp5
        have slen := R.slen
        refine q _ p5 (refs.set r p3) (fun b o nb e _ => (same_upd hp5) _ _ (k4 b o nb (s03 b o e))) (hT4.ext (same_upd hp5)) ?_ (fun x hx => ?_) ?_ rg5 ?_
        · rw [es, hhd]
          refine ⟨?_, by rw [List.length_set, hlen], by rw [List.length_set, slen], fun j x hx => ?_⟩
          · refine (same_upd hp5) _ _ ?_
            rw [← hH4, upd_same, List.map_set]
          · refine (same_upd hp5) _ _ ?_
            by_cases cj : j = r
            · subst cj
              rw [List.getElem?_set_self (by omega)] at hx
              cases hx
              rw [e4, List.getD_eq_getElem?_getD, List.getElem?_set_self (by omega)]
              rfl
            · rw [List.getElem?_set_ne (Ne.symm cj)] at hx
              have hxm : x ≠ rg := fun z => (hand3.regs.ne) (z ▸ List.mem_of_getElem? hx)
              have := hand3.regs.tabs j x hx
              rw [List.getD_eq_getElem?_getD] at this
              rw [k4 _ _ hxm this, List.getD_eq_getElem?_getD, List.getElem?_set_ne (Ne.symm cj)]
        · rcases List.mem_or_eq_of_mem_set hx with m | m
          · exact .inl m
          · rw [m]
            exact .inr (Free.of (s02.free n3))
        · refine Free.of ?_
          cases qh : H p5 with
          | none => rfl
          | some u =>
            rw [k4 _ _ rg5 (s03 _ _ qh)] at hp5
            cases hp5
        · rw [upd_same, es]
          rfl
      · rw [if_neg c]
        rw [if_neg c] at es
        intro H3 p3 eN hT3 n3 e3
        have hd3 : H3 d = some (.dK (toldK i (X.map Int.ofNat) oa)) := eN _ _ hd2 (fun ps z => by cases z)
        refine ⟨_, rfl, d, _, rfl, DGet.k (k := Sum.inr "r") hd3, _, rfl, ?_⟩
        rw [told_no hnl (nm_nor (by omega) hi) (fun _ => by decide +kernel)]
        refine iteF ⟨_, rfl, ?_⟩
        have e03 : ExtN H H3 := (ExtN.of s02).trans eN
        have R3 : Regs H3 rg s refs := hand.regs.over fun b u hb e => by
          refine eN _ _ e fun ps z => ?_
          rcases hb with hb | hb
          · rw [hb, hand.regs.at_] at e
            rw [z] at e
            cases e
          · obtain ⟨j, hj⟩ := List.mem_iff_getElem?.mp hb
            rw [hand.regs.tabs j b hj] at e
            rw [z] at e
            cases e
        have f3 : Free H p3 := fun u e => n3 u (s02 _ _ e)
        refine q H3 p3 refs (ExtBut.of e03) hT3 (by rw [es]; exact R3) (fun x hx => .inl hx) f3 (f3.lst R.at_) (by rw [es]; exact e3)
    · refine iteT ⟨1, rfl, by show 1 ≤ sizeLine; decide, fun p hp => ?_⟩
      have es : stepN s o i X = (s, [-1]) := by
        unfold stepN
        rw [hn, if_pos rfl]
      have s03 := Same.upd s02 hp (o := .lst [.int (-1)])
      have hpf : Free H p := Free.of (s02.free hp)
      refine q _ p refs (ExtBut.of (ExtN.of s03)) (hT.ext s03) (by rw [es]; exact R.same s03) (fun x hx => .inl hx) hpf (hpf.lst R.at_) ?_
      rw [upd_same, es]
      rfl
end
end TQ
end
section
set_option Elab.async false
set_option linter.all false
set_option maxRecDepth 100000
set_option maxHeartbeats 4100000
namespace TQ
open LamX L2 PyProof.Rows PySem PySem.Spec
/-! ### a turn of the line, by Nats -/
theorem arity_cnum {i : Nat} (hi : i < 16) (h : i ≠ 13) : arity ((i : Nat) : Int) = cnum i := by
  have c : ((List.range 16).all fun i => decide (i = 13) || decide (arity ((i : Nat) : Int) = cnum i)) = true := by decide
  have := List.all_eq_true.mp c i (List.mem_range.mpr hi)
  rw [decide_eq_false h, Bool.false_or] at this
  simpa using this
theorem turnN {l : List Int} {at_ n : Nat} {s : Diag.State} {given : List Int} (h : AtCall l at_ n s given) (hi : at_ < l.length) : ∃ (i : Nat) (X o : List Nat), i < 16 ∧ l[at_]? = some ((i : Nat) : Int) ∧ ShapeOk i X o ∧ (∀ x ∈ X, x < 9223372036854775808) ∧
    (l.drop (at_ + 1)).take X.length = X.map Int.ofNat ∧ at_ + 1 + X.length ≤ l.length ∧ (∃ m : Nat, (i = 13 → l[at_ + 2]? = some ((m : Nat) : Int)) ∧ X.length = cnum i + (if i = 13 then m else 0)) ∧
    AtCall l (at_ + 1 + X.length) (n + 1) (stepN s o i X).1 (given ++ (((stepN s o i X).2.length : Int) :: (stepN s o i X).2)) := by
  obtain ⟨p, hp, _, t⟩ := h.turn hi
  rcases t with ⟨h13, h0, h15, xs, hxs, hxl, hend, hin, nx⟩ | ⟨h13, a, m, o, ha, hm, ho, hol, h40, hend, hia, hio, nx⟩
  · obtain ⟨i, rfl⟩ : ∃ i : Nat, p = ((i : Nat) : Int) := ⟨p.toNat, by omega⟩
    have hi16 : i < 16 := by omega
    have hi13 : i ≠ 13 := fun z => h13 (by rw [z]; rfl)
    obtain ⟨X, rfl, hX⟩ := inB_nats hin
    rw [List.length_map, arity_cnum hi16 hi13] at hxl
    rw [arity_cnum hi16 hi13] at hxs hend nx
    have hsh : ShapeOk i X [] := by unfold ShapeOk; rw [if_neg hi13]; exact hxl
    have e := stepN_eq s i hi16 X [] hsh
    have ec : callL i X [] = PyWrdiag.whole [((i : Nat) : Int) :: X.map Int.ofNat] := by unfold callL; rw [if_neg hi13]
    rw [ec] at e
    rw [e] at nx
    refine ⟨i, X, [], hi16, hp, hsh, hX, by rw [hxl]; exact hxs, by omega, ⟨0, fun z => absurd z hi13, by rw [if_neg hi13]; exact hxl⟩, ?_⟩
    rw [hxl]
    exact nx
  · subst h13
    obtain ⟨a, rfl, ha'⟩ := inB_nat hia
    obtain ⟨O, rfl, hO⟩ := inB_nats hio
    rw [List.length_map] at hol
    subst hol
    have hsh : ShapeOk 13 (a :: O.length :: O) O := by unfold ShapeOk; rw [if_pos rfl]; exact ⟨a, _, rfl⟩
    have e := stepN_eq s 13 (by decide) (a :: O.length :: O) O hsh
    have ec : callL 13 (a :: O.length :: O) O = [[13, ((a : Nat) : Int)], O.map Int.ofNat] := by unfold callL; rw [if_pos rfl]; rfl
    rw [ec] at e
    rw [e] at nx
    have hl2 : at_ + 1 + (a :: O.length :: O).length = at_ + 3 + O.length := by simp only [List.length_cons]; omega
    refine ⟨13, a :: O.length :: O, O, by decide, hp, hsh, fun x hx => ?_, ?_, by rw [hl2]; exact hend, ⟨O.length, fun _ => hm, by rw [if_pos rfl]; show O.length + 1 + 1 = 2 + O.length; omega⟩, ?_⟩
    · rcases List.mem_cons.mp hx with z | z
      · rw [z]; exact ha'
      · rcases List.mem_cons.1 z with z | z
        · rw [z]
          omega
        · exact hO x z
    · have h1 : at_ + 1 < l.length := by omega
      have h2 : at_ + 2 < l.length := by omega
      rw [List.drop_eq_getElem_cons h1, List.drop_eq_getElem_cons h2]
      have e1 : l[at_ + 1] = ((a : Nat) : Int) := by
        rw [List.getElem?_eq_getElem h1] at ha
        exact Option.some.inj ha
      have e2 : l[at_ + 2] = ((O.length : Nat) : Int) := by
        rw [List.getElem?_eq_getElem h2] at hm
        exact Option.some.inj hm
      rw [e1]
      have e2' : l[at_ + 1 + 1] = ((O.length : Nat) : Int) := e2
      rw [e2']
      show ((a : Nat) : Int) :: ((O.length : Nat) : Int) :: (l.drop (at_ + 1 + 1 + 1)).take O.length = ((a : Nat) : Int) :: ((O.length : Nat) : Int) :: O.map Int.ofNat
      rw [ho]
    · rw [hl2]
      exact nx
theorem cut_nats (l : List Int) (i k : Nat) (h : i + k ≤ l.length) : cutV (vi l) (some (i : Int)) (some ((i + k : Nat) : Int)) = vi ((l.drop i).take k) := by
  unfold cutV
  rw [HT.sIx_nat, HT.sIx_nat]
  have e1 : (vi l).length = l.length := by simp [vi]
  rw [e1, Nat.min_eq_left (show i ≤ l.length by omega), Nat.min_eq_left h, show i + k - i = k by omega]
  unfold vi; rw [List.map_take, List.map_drop]
def spAnswers (K : PySem.W.Frag) (Pt : Addr) : Sp := fun vs H Q _ => ∃ (a : Addr) (l : List Int), vs = [.ref a] ∧ SqL K H a (vi l) ∧ PyWrdiag.answers_asked l = true ∧ Tabs [(Pt, lamQ)] H ∧
  ∀ (H' : Hp) (p : Addr), H' p = some (.lst (vi (PyWrdiag.answers l))) → Q (.ref p) H'
section
variable {base : Heap} {mg : Str → Option Value} {K : PySem.W.Frag} {P : Program} {w : World} {Pt : Addr}
theorem sc_answers : FnScope ["calls", "registers", "given", "at", "end", "answer"] ["calls"] (defScope s_answers) := ⟨rfl, rfl, rfl, by decide +kernel, rfl, by decide +kernel, by decide +kernel⟩
theorem tabs_upd {T : List (Addr × Str)} {H : Hp} {b : Addr} {o u : HO} (h : Tabs T H) (e : H b = some u) (n1 : ∀ ps, u ≠ .tbl ps) (n2 : ∀ c q, u ≠ CodeO c q) : Tabs T (upd H b o) := fun x hx => by
  obtain ⟨ps', a1, a2, a3⟩ := h x hx
  refine ⟨ps', by rw [upd_ne (ne_of a1 e (fun z => n1 _ z.symm))]; exact a1, a2, fun pos cv hcv => ?_⟩
  obtain ⟨c0, h1, h2⟩ := a3 pos cv hcv
  exact ⟨c0, h1, by rw [upd_ne (ne_of h2 e (fun z => n2 _ _ z.symm))]; exact h2⟩
theorem lst_code {xs : List V} (c : Addr) (q : Str) : (HO.lst xs) ≠ CodeO c q := fun z => by
  unfold CodeO at z
  cases z
theorem ok_answers {f : Addr} {fd : FuncData} (D : Fun K "answers" "answers" s_answers f fd) (mL : mg "len" = none) (dN : DefOk P w K mg base 2 "new_registers" spNewRegs) (dE : DefOk P w K mg base 1 "end_of_call" (spEnd K)) (dA : DefOk P w K mg base 22 "answered" (spAnswered K Pt)) : FnOk P w K mg base CX0 23 f fd ["calls"] (spAnswers K Pt) := by
  refine D.ok sc_answers (fun vs H Q E h => ?_) (fun cdv A outer s_ H vs Q E hr h => ?_)
  · obtain ⟨a, l, rfl, _⟩ := h
    rfl
  · obtain ⟨a, l, rfl, ha, hask, hT, q⟩ := h
    have ndp := sc_answers.nd
    have hr1 := hr.mono (show 1 ≤ 22 by decide)
    have hr2 := hr.mono (show 2 ≤ 22 by decide)
    refine ⟨_, pss_cons (ps_set (i := 1) ndp rfl (Or.inl rfl) (pe_cl0 dN hr2 rfl))
      (pss_cons (ps_set (i := 2) ndp rfl (Or.inl rfl) (pe_lst pa_nil))
      (pss_cons (ps_set (i := 3) ndp rfl (Or.inl rfl) pe_int)
      (pss_cons (ps_while PassesOwn.never (pt_cmpR op_lt (pv 3) (pe_callB call_len_seq (by rfl) mL PySem.boot_len (pa_cons (pv 0) pa_nil)) (nomark _))
        (pss_cons (ps_set (i := 4) ndp rfl (Or.inl rfl) (pe_cl dE hr1 rfl (pa_cons (pv 0) (pa_cons (pv 3) pa_nil))))
        (pss_cons (ps_set (i := 5) ndp rfl (Or.inl rfl) (pe_cl dA hr rfl (pa_cons (pv 1) (pa_cons (pe_ix ix_list (pv 0) (pv 3) (fun _ _ => rfl)) (pa_cons (pe_slice sl_list (pv 0) (po_some (pe_op op_add (pv 3) pe_int)) (po_some (pv 4))) pa_nil)))))
        (pss_cons (ps_expr (pe_bm PySem.F.plainAttrs_list PySem.F.slot_list_append PySem.F.type_list_append mt_append (pv 2) (pa_cons (pe_callB call_len_seq (by rfl) mL PySem.boot_len (pa_cons (pv 5) pa_nil)) pa_nil)))
        (pss_cons (ps_expr (pe_bm PySem.F.plainAttrs_list PySem.F.slot_list_extend PySem.F.type_list_extend mt_extend (pv 2) (pa_cons (pv 5) pa_nil)))
        (pss_one (ps_set (i := 3) ndp rfl (Or.inl rfl) (pv 4))))))))
      (pss_one (ps_ret (pv 2)))))), ?_⟩
    refine ⟨rfl, fun H1 rg refs0 s1 hrg R0 => ?_⟩
    refine ⟨by show 0 ≤ sizeLine; decide, fun gv hgv => ?_⟩
    have hgr : gv ≠ rg := fun e => by
      have := R0.at_
      rw [← e, hgv] at this
      cases this
    -- the loop
    refine while_by (fun (σ : L2.St) (H2 : Hp) => ∃ (i n : Nat) (st : Diag.State) (given : List Int) (refs : List Addr) (x4 x5 : Option V), σ = [some (.ref a), some (.ref rg), some (.ref gv), some (.int i), x4, x5] ∧
      AtCall l i n st given ∧ ExtN H H2 ∧ Tabs [(Pt, lamQ)] H2 ∧ Regs H2 rg st refs ∧ gv ∉ refs ∧ H2 gv = some (.lst (vi given))) (fun (σ : L2.St) (_ : Hp) => match σ[3]? with | some (some (V.int i)) => l.length - i.toNat | _ => 0) ?_ ?_ ?_
    · have s01 := Same.upd s1 hgv (o := .lst [])
      refine ⟨0, 0, Diag.start, [], refs0, none, none, rfl, AtCall.start hask, ExtN.of s01, hT.ext s01, R0.same (same_upd hgv), ?_, upd_same⟩
      intro hm
      obtain ⟨j, hj, e⟩ := List.getElem_of_mem hm
      have := R0.tabs j gv (by rw [List.getElem?_eq_getElem hj, e])
      rw [hgv] at this
      cases this
    · rintro σ H2 ⟨i, n, st, given, refs, x4, x5, rfl, at_, s2, hT2, R2, hgn, hg⟩
      have ha2 : SqL K H2 a (vi l) := ext_seq s2 ha
      have hle : (((vi l).length : Nat) : Int) = ((l.length : Nat) : Int) := by simp [vi]
      refine ⟨_, rfl, _, rfl, a, vi l, rfl, .inl ha2, _, _, rfl, rfl, _, rfl, ?_⟩; refine ite2 (fun c => ?_) (fun c => ?_)
      · have hi : i < l.length := by
          have := of_decide_eq_true c
          omega
        obtain ⟨k, X, o, hk, hp, hsh, hsm, hcut, hend, ⟨m, hm, hXl⟩, nx⟩ := turnN at_ hi
        have pl : (vi l)[i]? = some (.int ((k : Nat) : Int)) := vi_at hp
        -- where it ends
        refine ⟨_, rfl, _, rfl, a, l, i, k, m, rfl, ha2, hk, hp, hm, ?_⟩
        have ee : i + 1 + cnum k + (if k = 13 then m else 0) = i + 1 + X.length := by omega
        rw [ee]
        -- the answer
        refine ⟨_, rfl, _, rfl, _, rfl, a, _, _, _, rfl, rfl, ha2, atI_nat pl, ?_⟩
        refine ⟨_, rfl, _, rfl, _, _, rfl, rfl, _, rfl, _, rfl, _, rfl, a, _, rfl, ha2, fun sl hsl => ?_⟩
        have cut : cutV (vi l) (some ((i : Int) + 1)) (some ((i + 1 + X.length : Nat) : Int)) = vi (X.map Int.ofNat) := by
          have e1 : (i : Int) + 1 = ((i + 1 : Nat) : Int) := by omega
          rw [e1, cut_nats l (i + 1) X.length hend, hcut]
        dsimp only
        rw [cut]
        have sS : Same H2 (upd H2 sl (.lst (vi (X.map Int.ofNat)))) := same_upd hsl
        have R3 := R2.same sS
        refine ⟨rg, sl, k, X, o, st, refs, rfl, hk, R3, SqL.of upd_same, hsh, hsm, hT2.ext sS, fun H3 p refs' k3 hT3 R' new3 hq hqr eq => ?_⟩
        have hgvS := sS _ _ hg
        have hgv3 : H3 gv = some (.lst (vi given)) := k3 _ _ hgr hgvS (fun ps z => by cases z)
        have hpg : p ≠ gv := hq.lst hgvS
        refine ⟨_, rfl, .inl ⟨rfl, _, SqL.of hgv3⟩, ?_⟩
        refine ⟨_, rfl, p, _, rfl, .inl (SqL.of eq), ?_⟩
        have short : given.length + 1 + (stepN st o k X).2.length ≤ 10000000 := by
          have := nx.given_short hask
          rw [List.length_append, List.length_cons] at this
          omega
        have big : 10000000 < sizeLine := by rw [sizeLine_eq]; decide
        refine ⟨gv, _, _, rfl, rfl, hgv3, by rw [vi_len]; omega, ?_⟩
        refine ⟨_, rfl, .inl ⟨rfl, _, SqL.of upd_same⟩, ?_⟩
        refine ⟨_, rfl, gv, p, _, _, rfl, rfl, upd_same, (by rw [upd_ne hpg]; exact eq), ?_, ?_⟩
        · rw [List.length_append, vi_len, vi_len, List.length_singleton]
          omega
        generalize hH4 : upd (upd H3 gv (.lst (vi given ++ [V.int (((vi (stepN st o k X).2).length : Nat) : Int)]))) gv (.lst ((vi given ++ [V.int (((vi (stepN st o k X).2).length : Nat) : Int)]) ++ vi (stepN st o k X).2)) = H4
        have k4 : ∀ b u, b ≠ gv → H3 b = some u → H4 b = some u := fun b u nb e => by rw [← hH4, upd_ne nb, upd_ne nb]; exact e
        have hg0 : H gv = none := s1.free hgv
        have slot : ∀ x y z : V, (([some (V.ref a), some (V.ref rg), some (V.ref gv), some x, some y, some z] : List (Option V)).set 3 (some y)) = [some (V.ref a), some (V.ref rg), some (V.ref gv), some y, some y, some z] := fun _ _ _ => rfl
        refine ⟨_, rfl, ⟨i + 1 + X.length, n + 1, _, _, refs', some (.int ((i + 1 + X.length : Nat) : Int)), some (.ref p), rfl, nx, ?_, ?_, ?_, ?_, ?_⟩, ?_⟩
        · intro b u e nt
          have nb : b ≠ rg := fun z => by rw [z, hrg] at e; cases e
          have ng : b ≠ gv := fun z => by rw [z, hg0] at e; cases e
          exact k4 b u ng (k3 b u nb (sS _ _ (s2 b u e nt)) nt)
        · rw [← hH4]
          exact tabs_upd (tabs_upd hT3 hgv3 (fun ps z => by cases z) lst_code) upd_same (fun ps z => by cases z) lst_code
        · refine R'.over fun b u hb e => ?_
          have nb : b ≠ gv := fun z => by
            rcases hb with hb | hb
            · exact hgr (z.symm.trans hb)
            · rcases new3 b hb with x | x
              · exact hgn (z ▸ x)
              · exact x.lst hgvS z
          exact k4 b u nb e
        · intro hm
          rcases new3 gv hm with x | x
          · exact hgn x
          · exact x.lst hgvS rfl
        · rw [← hH4, upd_same]
          refine congrArg (fun l => some (HO.lst l)) ?_
          simp [vi]
        · show l.length - ((i + 1 + X.length : Nat) : Int).toNat < l.length - (i : Int).toNat
          omega
      · have hi : l.length ≤ i := by
          have : ¬ ((i : Int) < ((vi l).length : Nat)) := fun z => c (decide_eq_true z)
          omega
        refine ⟨_, rfl, ?_⟩
        refine q H2 gv ?_
        rw [at_.done hi]
        exact hg
    · intro σ H2 Q1 Q2 hm hc
      obtain ⟨v, e1, u, e2, p, ys, e3, e4, i, j, e5, e6, k, e7, hq⟩ := hc
      exact ⟨v, e1, u, e2, p, ys, e3, e4, i, j, e5, e6, k, e7, hm _ _ hq⟩
end
end TQ
end
section
set_option Elab.async false
set_option linter.all false
set_option maxRecDepth 100000
set_option maxHeartbeats 4100000
/-! the top as the head finds it; all the defs together -/
namespace TQ
open LamX L2 PyProof.Rows PySem PySem.Spec
/-- one row of CALLS -/
def RowK (K : PySem.W.Frag) (mg : Str → Option Value) (i : Nat) (r : Addr) : Prop :=
  ∃ (na fa : Addr), (∀ H : Hp, SqT K H r [.ref na, .ref fa]) ∧ (∀ H : Hp, SqT K H na ((nm i).map V.str)) ∧ mg (fnm i) = some (.ref fa)
theorem row_mk {K : PySem.W.Frag} {mg : Str → Option Value} {h : Heap} {i : Nat} {r na fa : Addr} {od od2 : Option Addr} {its its2 : Array Value} {n n2 : Nat} {osl osl2 : Array (Option Value)} (X : K.In h) (G : h.Ns mainGlobals mg)
    (l : K.lookup r = some ⟨.type "tuple", od, .seq its n, osl⟩) (e : its.toList = [.ref na, .ref fa]) (l2 : K.lookup na = some ⟨.type "tuple", od2, .seq its2 n2, osl2⟩) (e2 : Vals ((nm i).map V.str) its2.toList)
    (g : PySem.W.nsIn K mainGlobals (fnm i) = some (some (.ref fa))) : RowK K mg i r := by
  have big : 16 < sizeLine := by rw [sizeLine_eq]; decide
  have s1 : its.size = 2 := by rw [← Array.length_toList, e]; rfl
  have s2 : its2.size ≤ 16 := by
    rw [← Array.length_toList, ← e2.length, List.length_map]
    match i with
    | 0 | 1 | 2 | 3 | 4 | 5 | 6 | 7 | 8 | 9 | 10 | 11 | 12 | 13 | 14 => decide
    | _ + 15 => show 2 ≤ 16; decide
  refine ⟨na, fa, fun H => .inr ⟨_, its, n, l, rfl, rfl, by omega, ?_⟩, fun H => .inr ⟨_, its2, n2, l2, rfl, rfl, by omega, e2⟩, PySem.W.mg_of X G g⟩
  rw [e]
  exact .cons rfl (.cons rfl .nil)
def RowsK (K : PySem.W.Frag) (mg : Str → Option Value) : Nat → List Addr → Prop
  | _, [] => True
  | i, r :: rs => RowK K mg i r ∧ RowsK K mg (i + 1) rs
theorem RowsK.at_ {K : PySem.W.Frag} {mg : Str → Option Value} : ∀ {rs : List Addr} {i j : Nat} {r : Addr}, RowsK K mg i rs → rs[j]? = some r → RowK K mg (i + j) r
  | [], _, j, _, _, e => by simp at e
  | r0 :: rs, i, 0, r, h, e => by
    cases e
    exact h.1
  | r0 :: rs, i, j + 1, r, h, e => by
    have := RowsK.at_ (j := j) h.2 (by simpa using e)
    rw [show i + (j + 1) = i + 1 + j by omega]
    exact this
theorem calls_mk {K : PySem.W.Frag} {mg : Str → Option Value} {h : Heap} {ca : Addr} {od : Option Addr} {its : Array Value} {n : Nat} {osl : Array (Option Value)} {rs : List Addr} (X : K.In h) (G : h.Ns mainGlobals mg)
    (g : PySem.W.nsIn K mainGlobals "CALLS" = some (some (.ref ca))) (l : K.lookup ca = some ⟨.type "tuple", od, .seq its n, osl⟩) (e : its.toList = rs.map Value.ref) (hl : rs.length = 16) (R : RowsK K mg 0 rs) :
    ∃ (ra na fa : Nat → Addr), CallsT K mg ca ra na fa := by
  have big : 16 < sizeLine := by rw [sizeLine_eq]; decide
  have hat : ∀ i, i < 16 → rs[i]? = some (rs.getD i 0) := fun i hi => by
    rw [List.getD_eq_getElem?_getD, List.getElem?_eq_getElem (by omega : i < rs.length)]
    rfl
  have hR : ∀ i, i < 16 → RowK K mg i (rs.getD i 0) := fun i hi => by
    have := R.at_ (hat i hi)
    rwa [Nat.zero_add] at this
  refine ⟨fun i => rs.getD i 0, fun i => if hi : i < 16 then (hR i hi).choose else 0, fun i => if hi : i < 16 then (hR i hi).choose_spec.choose else 0, PySem.W.mg_of X G g, fun H => .inr ⟨_, its, n, l, rfl, rfl, ?_, ?_⟩, fun i hi H => ?_, fun i hi H => ?_, fun i hi => ?_⟩
  · rw [← Array.length_toList, e, List.length_map]
    omega
  · have e1 : ((List.range 16).map fun i => V.ref (rs.getD i 0)) = rs.map V.ref := by
      refine List.ext_getElem? fun j => ?_; by_cases hj : j < 16
      · rw [List.getElem?_map, List.getElem?_range hj, List.getElem?_map, hat j hj]
        rfl
      · rw [List.getElem?_eq_none (by simp; omega), List.getElem?_eq_none (by simp; omega)]
    rw [e1, e]
    clear e e1 hR hat R hl
    induction rs with
    | nil => exact .nil
    | cons r rs ih => exact .cons rfl ih
  · rw [dif_pos hi, dif_pos hi]
    exact (hR i hi).choose_spec.choose_spec.1 H
  · rw [dif_pos hi]
    exact (hR i hi).choose_spec.choose_spec.2.1 H
  · rw [dif_pos hi]
    exact (hR i hi).choose_spec.choose_spec.2.2
theorem great_mk {K : PySem.W.Frag} {w : World} {mg : Str → Option Value} {h : Heap} {b : Addr} {es : Array DictEntry} {n : Nat} {t1 t2 t3 t4 t5 t6 t7 t8 : Tok} (X : K.In h) (G : h.Ns mainGlobals mg)
    (g : PySem.W.nsIn K mainGlobals "GREATEST" = some (some (.ref b))) (l : K.lookup b = some ⟨.type "dict", none, .dict es n, #[]⟩) (k : PySem.W.KeysLit w.params es.toList) (low : (b == sysModules) = false)
    (g1 : PySem.W.nsIn K b "r" = some (some (.int 15 t1))) (g2 : PySem.W.nsIn K b "a" = some (some (.int 15 t2))) (g3 : PySem.W.nsIn K b "b" = some (some (.int 15 t3))) (g4 : PySem.W.nsIn K b "c" = some (some (.int 15 t4)))
    (g5 : PySem.W.nsIn K b "v" = some (some (.int 9 t5))) (g6 : PySem.W.nsIn K b "z" = some (some (.int 1 t6))) (g7 : PySem.W.nsIn K b "op" = some (some (.int 15 t7))) (g8 : PySem.W.nsIn K b "m" = some (some (.int 1023 t8)))
    (n1 : PySem.W.nsIn K b "length" = some none) (n2 : PySem.W.nsIn K b "from" = some none) (n3 : PySem.W.nsIn K b "o" = some none) : Great K w mg b es n := by
  refine ⟨PySem.W.mg_of X G g, ⟨l, k, low⟩, fun x i e => ?_, fun x hx => ?_⟩
  · have hm : (x, i) ∈ greats := by
      have key : ∀ (l : List (Str × Int)), l.lookup x = some i → (x, i) ∈ l := fun l => by
        induction l with
        | nil => intro e; cases e
        | cons p l ih =>
          intro e
          rw [List.lookup_cons] at e
          cases q : x == p.1 with
          | true =>
            rw [q] at e
            cases e
            rw [eq_of_beq q]
            exact List.mem_cons_self
          | false =>
            rw [q] at e
            exact List.mem_cons_of_mem _ (ih e)
      exact key _ e
    simp only [greats, List.mem_cons, List.not_mem_nil, or_false, Prod.mk.injEq] at hm
    rcases hm with ⟨rfl, rfl⟩ | ⟨rfl, rfl⟩ | ⟨rfl, rfl⟩ | ⟨rfl, rfl⟩ | ⟨rfl, rfl⟩ | ⟨rfl, rfl⟩ | ⟨rfl, rfl⟩ | ⟨rfl, rfl⟩
    · exact ⟨_, g1⟩
    · exact ⟨_, g2⟩
    · exact ⟨_, g3⟩
    · exact ⟨_, g4⟩
    · exact ⟨_, g5⟩
    · exact ⟨_, g6⟩
    · exact ⟨_, g7⟩
    · exact ⟨_, g8⟩
  · simp only [List.mem_cons, List.not_mem_nil, or_false] at hx
    rcases hx with rfl | rfl | rfl
    · exact n1
    · exact n2
    · exact n3
/-- a number of the top -/
theorem con_mk {K : PySem.W.Frag} {mg : Str → Option Value} {h : Heap} {x : Str} {i : Int} {t : Tok} (X : K.In h) (G : h.Ns mainGlobals mg) (e : PySem.W.nsIn K mainGlobals x = some (some (.int i t))) : ∃ t, mg x = some (.int i t) := ⟨t, PySem.W.mg_of X G e⟩
/-- a name that the top does not have -/
theorem non_mk {K : PySem.W.Frag} {mg : Str → Option Value} {h : Heap} {x : Str} (X : K.In h) (G : h.Ns mainGlobals mg) (e : PySem.W.nsIn K mainGlobals x = some none) : mg x = none := PySem.W.mg_none_of X G e
/-- every def of the top -/
structure Defs (K : PySem.W.Frag) (mg : Str → Option Value) : Prop where
  d_bit : IsDef K mg "bit" s_bit ["number", "place"]
  d_everywhere : IsDef K mg "everywhere" s_everywhere ["said"]
  d_variable : IsDef K mg "variable" s_variable ["v"]
  d_opposite : IsDef K mg "opposite" s_opposite ["function"]
  d_joined : IsDef K mg "joined" s_joined ["op", "first", "second"]
  d_chosen : IsDef K mg "chosen" s_chosen ["asked", "if_yes", "if_no"]
  d_case_with : IsDef K mg "case_with" s_case_with ["case", "v", "said"]
  d_fixed : IsDef K mg "fixed" s_fixed ["function", "v", "said"]
  d_for_either : IsDef K mg "for_either" s_for_either ["function", "v"]
  d_for_both : IsDef K mg "for_both" s_for_both ["function", "v"]
  d_put_for : IsDef K mg "put_for" s_put_for ["function", "v", "other"]
  d_how_many : IsDef K mg "how_many" s_how_many ["function"]
  d_first_yes : IsDef K mg "first_yes" s_first_yes ["function", "start"]
  d_first_outside : IsDef K mg "first_outside" s_first_outside ["function", "other"]
  d_does_matter : IsDef K mg "does_matter" s_does_matter ["function", "v"]
  d_mattering : IsDef K mg "mattering" s_mattering ["function"]
  d_is_order : IsDef K mg "is_order" s_is_order ["numbers"]
  d_half : IsDef K mg "half" s_half ["part", "said"]
  d_shortened : IsDef K mg "shortened" s_shortened ["part"]
  d_whole_part : IsDef K mg "whole_part" s_whole_part ["function", "order"]
  d_gone_on : IsDef K mg "gone_on" s_gone_on ["part", "said"]
  d_number_parts : IsDef K mg "number_parts" s_number_parts ["part", "numbers"]
  d_numbered_parts : IsDef K mg "numbered_parts" s_numbered_parts ["whole"]
  d_place_of : IsDef K mg "place_of" s_place_of ["part", "numbers"]
  d_variable_of : IsDef K mg "variable_of" s_variable_of ["part", "order"]
  d_nodes_told : IsDef K mg "nodes_told" s_nodes_told ["numbers", "order"]
  d_how_many_nodes : IsDef K mg "how_many_nodes" s_how_many_nodes ["function", "order"]
  d_orders_of : IsDef K mg "orders_of" s_orders_of ["variables"]
  d_best_order : IsDef K mg "best_order" s_best_order ["function", "variables"]
  d_new_registers : IsDef K mg "new_registers" s_new_registers []
  d_make_const : IsDef K mg "make_const" s_make_const ["registers", "told"]
  d_make_var : IsDef K mg "make_var" s_make_var ["registers", "told"]
  d_make_not : IsDef K mg "make_not" s_make_not ["registers", "told"]
  d_make_two : IsDef K mg "make_two" s_make_two ["registers", "told"]
  d_make_choose : IsDef K mg "make_choose" s_make_choose ["registers", "told"]
  d_make_fix : IsDef K mg "make_fix" s_make_fix ["registers", "told"]
  d_make_some : IsDef K mg "make_some" s_make_some ["registers", "told"]
  d_make_all : IsDef K mg "make_all" s_make_all ["registers", "told"]
  d_make_put : IsDef K mg "make_put" s_make_put ["registers", "told"]
  d_with_length : IsDef K mg "with_length" s_with_length ["numbers"]
  d_answer_value : IsDef K mg "answer_value" s_answer_value ["registers", "told"]
  d_answer_count : IsDef K mg "answer_count" s_answer_count ["registers", "told"]
  d_answer_first : IsDef K mg "answer_first" s_answer_first ["registers", "told"]
  d_answer_matters : IsDef K mg "answer_matters" s_answer_matters ["registers", "told"]
  d_answer_diagram : IsDef K mg "answer_diagram" s_answer_diagram ["registers", "told"]
  d_answer_best : IsDef K mg "answer_best" s_answer_best ["registers", "told"]
  d_answer_within : IsDef K mg "answer_within" s_answer_within ["registers", "told"]
  d_end_of_call : IsDef K mg "end_of_call" s_end_of_call ["calls", "at"]
  d_told_by : IsDef K mg "told_by" s_told_by ["number", "numbers"]
  d_is_refused : IsDef K mg "is_refused" s_is_refused ["told"]
  d_answered : IsDef K mg "answered" s_answered ["registers", "number", "numbers"]
  d_answers : IsDef K mg "answers" s_answers ["calls"]
/-- the numbers of the top -/
structure Cons (mg : Str → Option Value) : Prop where
  c_CASES : ∃ t, mg "CASES" = some (.int 1024 t)
  c_EITHER : ∃ t, mg "EITHER" = some (.int 14 t)
  c_BOTH : ∃ t, mg "BOTH" = some (.int 8 t)
  c_FIRST_ALONE : ∃ t, mg "FIRST_ALONE" = some (.int 4 t)
  c_VARIABLES : ∃ t, mg "VARIABLES" = some (.int 10 t)
  c_REGISTERS : ∃ t, mg "REGISTERS" = some (.int 16 t)
  c_DIAGRAM : ∃ t, mg "DIAGRAM" = some (.int 13 t)
  c_MOST_TO_ORDER : ∃ t, mg "MOST_TO_ORDER" = some (.int 5 t)
/-- what the top leaves to Python -/
structure Nons (mg : Str → Option Value) : Prop where
  n_len : mg "len" = none
  n_range : mg "range" = none
  n_zip : mg "zip" = none
  n_enumerate : mg "enumerate" = none
  n_sum : mg "sum" = none
  n_sorted : mg "sorted" = none
  n_list : mg "list" = none
  n_reversed : mg "reversed" = none
  n_tuple : mg "tuple" = none
  n_min : mg "min" = none
  n_any : mg "any" = none
  n_dict : mg "dict" = none
section
variable {base : Heap} {mg : Str → Option Value} {K : PySem.W.Frag} {P : Program} {w : World}
theorem all_ok {ca b c Pt : Addr} {ra na fa : Nat → Addr} {es : Array DictEntry} {n : Nat} {f : Addr} {fd : FuncData} (F : Fun K "answers" "answers" s_answers f fd) (D : Defs K mg) (C : Cons mg) (N : Nons mg) (T : CallsT K mg ca ra na fa) (G : Great K w mg b es n)
    (DC : IsDefC K mg "best_order" s_best_order ["function", "variables"] c) (TB : TabB base mg c Pt) : FnOk P w K mg base L2.CX0 23 f fd ["calls"] (spAnswers K Pt) := by
  obtain ⟨_, hCases⟩ := C.c_CASES
  obtain ⟨_, hEither⟩ := C.c_EITHER
  obtain ⟨_, hBoth⟩ := C.c_BOTH
  obtain ⟨_, hAlone⟩ := C.c_FIRST_ALONE
  obtain ⟨_, hVars⟩ := C.c_VARIABLES
  obtain ⟨_, hRegs⟩ := C.c_REGISTERS
  obtain ⟨_, hDiag⟩ := C.c_DIAGRAM
  obtain ⟨_, hMost⟩ := C.c_MOST_TO_ORDER
  have k_bit : DefOk P w K mg base 1 "bit" spBit := ok_bit D.d_bit
  have k_everywhere : DefOk P w K mg base 1 "everywhere" spEverywhere := ok_everywhere D.d_everywhere hCases
  have k_variable := ok_variable D.d_variable hCases N.n_range k_bit
  have k_opposite : DefOk P w K mg base 1 "opposite" (spOpposite K) := ok_opposite D.d_opposite
  have k_joined := ok_joined D.d_joined N.n_range N.n_zip k_bit
  have k_chosen : DefOk P w K mg base 1 "chosen" (spChosen K) := ok_chosen D.d_chosen N.n_zip
  have k_case_with : DefOk P w K mg base 1 "case_with" spCaseWith := ok_case_with D.d_case_with
  have k_fixed := ok_fixed D.d_fixed hCases N.n_range k_case_with
  have k_for_either := ok_for_either D.d_for_either hEither k_joined k_fixed
  have k_for_both := ok_for_both D.d_for_both hBoth k_joined k_fixed
  have k_how_many : DefOk P w K mg base 1 "how_many" (spHowMany K) := ok_how_many D.d_how_many N.n_sum
  have k_put_for := ok_put_for D.d_put_for N.n_enumerate k_case_with
  have k_first_yes : DefOk P w K mg base 1 "first_yes" (spFirst K) := ok_first_yes D.d_first_yes hCases N.n_range
  have k_first_outside := ok_first_outside D.d_first_outside hAlone k_joined k_first_yes
  have k_does_matter := ok_does_matter D.d_does_matter hCases N.n_range k_case_with
  have k_mattering := ok_mattering D.d_mattering hVars N.n_range k_does_matter
  have k_half : DefOk P w K mg base 1 "half" spHalf := ok_half D.d_half N.n_len
  have k_shortened := ok_shortened D.d_shortened N.n_len k_half
  have k_gone_on := ok_gone_on D.d_gone_on k_half k_shortened
  have k_place_of : DefOk P w K mg base 1 "place_of" spPlace := ok_place_of D.d_place_of N.n_len
  have k_variable_of : DefOk P w K mg base 1 "variable_of" (spVarOf K) := ok_variable_of D.d_variable_of N.n_len
  have k_number_parts : DefOk P w K mg base 15 "number_parts" (spNum 11) := ok_number_parts D.d_number_parts N.n_len k_gone_on 12
  have k_numbered_parts := ok_numbered_parts D.d_numbered_parts k_number_parts
  have k_nodes_told := ok_nodes_told D.d_nodes_told k_variable_of k_place_of k_gone_on
  have k_whole_part := ok_whole_part D.d_whole_part N.n_reversed N.n_tuple k_shortened
  have k_how_many_nodes := ok_how_many_nodes D.d_how_many_nodes N.n_len k_numbered_parts k_whole_part
  have k_is_order : DefOk P w K mg base 1 "is_order" (spIsOrder K) := ok_is_order D.d_is_order N.n_sorted N.n_list N.n_range hVars
  have k_orders_of : DefOk P w K mg base 1 "orders_of" (spOrders K) := ok_orders_of D.d_orders_of N.n_len N.n_range
  have k_best_order := ok_best_order DC TB N.n_min k_orders_of k_how_many_nodes
  have k_told_by : DefOk P w K mg base 1 "told_by" (spToldBy K) := ok_told_by D.d_told_by T N.n_zip N.n_dict N.n_len hDiag
  have k_is_refused := ok_is_refused D.d_is_refused N.n_any G k_is_order
  have k_with_length : DefOk P w K mg base 1 "with_length" spWl := ok_with_length D.d_with_length N.n_len
  have dF : ∀ i, i < 16 → DefOk P w K mg base 21 (fnm i) (spFn K Pt i) := fun i hi => by
    match i, hi with
    | 0, _ => exact (ok_make_const D.d_make_const k_everywhere).mono (by decide)
    | 1, _ => exact (ok_make_var D.d_make_var k_variable).mono (by decide)
    | 2, _ => exact (ok_make_not D.d_make_not k_opposite).mono (by decide)
    | 3, _ => exact (ok_make_two D.d_make_two k_joined).mono (by decide)
    | 4, _ => exact (ok_make_choose D.d_make_choose k_chosen).mono (by decide)
    | 5, _ => exact (ok_make_fix D.d_make_fix k_fixed).mono (by decide)
    | 6, _ => exact (ok_make_some D.d_make_some k_for_either).mono (by decide)
    | 7, _ => exact (ok_make_all D.d_make_all k_for_both).mono (by decide)
    | 8, _ => exact (ok_make_put D.d_make_put k_put_for).mono (by decide)
    | 9, _ => exact (ok_answer_value D.d_answer_value).mono (k := 21) (j := 1) (by decide)
    | 10, _ => exact (ok_answer_count D.d_answer_count k_how_many).mono (by decide)
    | 11, _ => exact (ok_answer_first D.d_answer_first k_first_yes).mono (by decide)
    | 12, _ => exact (ok_answer_matters D.d_answer_matters N.n_len k_mattering k_with_length).mono (by decide)
    | 13, _ => exact (ok_answer_diagram D.d_answer_diagram N.n_len k_whole_part k_numbered_parts k_place_of k_nodes_told k_with_length).mono (by decide)
    | 14, _ => exact ok_answer_best D.d_answer_best N.n_len hMost k_mattering k_best_order k_how_many_nodes k_with_length
    | 15, _ => exact (ok_answer_within D.d_answer_within k_first_outside k_with_length).mono (by decide)
    | i + 16, h => exact absurd h (by omega)
  have k_new := ok_new_registers D.d_new_registers hRegs k_everywhere
  have k_end : DefOk P w K mg base 1 "end_of_call" (spEnd K) := ok_end_of_call D.d_end_of_call T N.n_len hDiag
  exact ok_answers F N.n_len k_new k_end (ok_answered D.d_answered T k_told_by k_is_refused k_how_many dF)
end
/-- the program's promise, as the end asks for it -/
theorem end_mk {P : Program} {w : World} {K : PySem.W.Frag} {mg : Str → Option Value} {h : Heap} {fa0 ca b a c Pt : Addr} {ra na fa : Nat → Addr} {es : Array DictEntry} {n : Nat} {o : Obj} {fd0 : FuncData} (KX : K.In h) (hmg : mg "answers" = some (.ref fa0)) (D : Defs K mg) (C : Cons mg) (N : Nons mg)
    (T : CallsT K mg ca ra na fa) (G : Great K w mg b es n) (hm : mg "best_order" = some (.ref a)) (ho : h.get? a = some o) (hd : o.data = .func fd0) (hc : fd0.code = .ref c) :
    ∃ fd : FuncData, (∀ (s : Shared) (us : List Value), us.length = (["calls"] : List Str).length → BindsTo s fd ⟨us, []⟩ ((["calls"] : List Str).zip us)) ∧
      ∀ base : Heap, K.In base → base.Ns mainGlobals mg → TabB base mg c Pt → FnOk P w K mg base L2.CX0 23 fa0 fd ["calls"] (spAnswers K Pt) := by
  have DC := D.d_best_order.withCode KX hm ho hd hc
  obtain ⟨f, fd, F, g, _⟩ := D.d_answers.ex
  rw [hmg] at g
  cases g
  refine ⟨fd, ?_, fun base _ _ TB => all_ok F D C N T G DC TB⟩
  obtain ⟨_, _, _, _, _, _, _, _, _, rfl, _, _⟩ := F.ex
  exact fun s us hu => match us, hu with
    | [_], _ => .of_eq rfl
/-- what the line of numbers is, what comes back -/
theorem end_sp {K : PySem.W.Frag} {Pt p : Addr} {H : Hp} {l : List Int} {R : V → Hp → Prop} (hP : H Pt = some (.tbl #[])) (ha : SqL K H p (vi l)) (hask : PyWrdiag.answers_asked l = true)
    (q : ∀ (H' : Hp) (p : Addr), H' p = some (.lst (vi (PyWrdiag.answers l))) → R (.ref p) H') : spAnswers K Pt [.ref p] H R (fun _ _ _ => False) :=
  ⟨p, l, rfl, ha, hask, (fun x hx => by rw [List.mem_singleton.mp hx]; exact TabS.nil hP), q⟩
end TQ
end
set_option Elab.async false
open PyProof.Rows PySem.W PySem
set_option maxRecDepth 110000 in
set_option maxHeartbeats 8100000 in
theorem PySem.Challenge.cw_tenquestions_s01_answers_holds : PySem.Challenge.rw_tenquestions_s01_answers.Holds := by
  w_on
  k_headS
  (case hw => exact ⟨[.list []], by decide +kernel, by decide +kernel⟩)
  k_fillS
  refine TQ.walk_specTs (r := PySem.Challenge.rw_tenquestions_s01_answers) (k := 23) (CX := L2.CX0) (ps := ["calls"]) (x := "best_order") (sp := fun K P => TQ.spAnswers K P) (by decide +kernel) rfl rfl ⟨rfl, by decide, by decide⟩ rfl (fun w h Y => PySem.W.kIn_of Y) ?NT ?F ?S (fun _ _ _ _ z => z)
  case NT => exact fun w => rfl
  case F =>
    intro w mg fa h Y KX G hmg a c Pt o fd hx ho hd hc
    refine' (fun d_bit => ?n6) (TQ.isDef (x := "bit") (st := TQ.s_bit) (ps := ["number", "place"]) KX G (fun _ _ _ _ _ _ us hl => match us, hl with | [_, _], _ => rfl) ?a6 ?l6 ?c6 ?k6)
    (case a6 => k_is); (case l6 => k_is); (case c6 => k_is); (case k6 => k_is)
    refine' (fun d_everywhere => ?n7) (TQ.isDef (x := "everywhere") (st := TQ.s_everywhere) (ps := ["said"]) KX G (fun _ _ _ _ _ _ us hl => match us, hl with | [_], _ => rfl) ?a7 ?l7 ?c7 ?k7)
    (case a7 => k_is); (case l7 => k_is); (case c7 => k_is); (case k7 => k_is)
    refine' (fun d_variable => ?n8) (TQ.isDef (x := "variable") (st := TQ.s_variable) (ps := ["v"]) KX G (fun _ _ _ _ _ _ us hl => match us, hl with | [_], _ => rfl) ?a8 ?l8 ?c8 ?k8)
    (case a8 => k_is); (case l8 => k_is); (case c8 => k_is); (case k8 => k_is)
    refine' (fun d_opposite => ?n9) (TQ.isDef (x := "opposite") (st := TQ.s_opposite) (ps := ["function"]) KX G (fun _ _ _ _ _ _ us hl => match us, hl with | [_], _ => rfl) ?a9 ?l9 ?c9 ?k9)
    (case a9 => k_is); (case l9 => k_is); (case c9 => k_is); (case k9 => k_is)
    refine' (fun d_joined => ?n10) (TQ.isDef (x := "joined") (st := TQ.s_joined) (ps := ["op", "first", "second"]) KX G (fun _ _ _ _ _ _ us hl => match us, hl with | [_, _, _], _ => rfl) ?a10 ?l10 ?c10 ?k10)
    (case a10 => k_is); (case l10 => k_is); (case c10 => k_is); (case k10 => k_is)
    refine' (fun d_chosen => ?n11) (TQ.isDef (x := "chosen") (st := TQ.s_chosen) (ps := ["asked", "if_yes", "if_no"]) KX G (fun _ _ _ _ _ _ us hl => match us, hl with | [_, _, _], _ => rfl) ?a11 ?l11 ?c11 ?k11)
    (case a11 => k_is); (case l11 => k_is); (case c11 => k_is); (case k11 => k_is)
    refine' (fun d_case_with => ?n12) (TQ.isDef (x := "case_with") (st := TQ.s_case_with) (ps := ["case", "v", "said"]) KX G (fun _ _ _ _ _ _ us hl => match us, hl with | [_, _, _], _ => rfl) ?a12 ?l12 ?c12 ?k12)
    (case a12 => k_is); (case l12 => k_is); (case c12 => k_is); (case k12 => k_is)
    refine' (fun d_fixed => ?n13) (TQ.isDef (x := "fixed") (st := TQ.s_fixed) (ps := ["function", "v", "said"]) KX G (fun _ _ _ _ _ _ us hl => match us, hl with | [_, _, _], _ => rfl) ?a13 ?l13 ?c13 ?k13)
    (case a13 => k_is); (case l13 => k_is); (case c13 => k_is); (case k13 => k_is)
    refine' (fun d_for_either => ?n14) (TQ.isDef (x := "for_either") (st := TQ.s_for_either) (ps := ["function", "v"]) KX G (fun _ _ _ _ _ _ us hl => match us, hl with | [_, _], _ => rfl) ?a14 ?l14 ?c14 ?k14)
    (case a14 => k_is); (case l14 => k_is); (case c14 => k_is); (case k14 => k_is)
    refine' (fun d_for_both => ?n15) (TQ.isDef (x := "for_both") (st := TQ.s_for_both) (ps := ["function", "v"]) KX G (fun _ _ _ _ _ _ us hl => match us, hl with | [_, _], _ => rfl) ?a15 ?l15 ?c15 ?k15)
    (case a15 => k_is); (case l15 => k_is); (case c15 => k_is); (case k15 => k_is)
    refine' (fun d_put_for => ?n16) (TQ.isDef (x := "put_for") (st := TQ.s_put_for) (ps := ["function", "v", "other"]) KX G (fun _ _ _ _ _ _ us hl => match us, hl with | [_, _, _], _ => rfl) ?a16 ?l16 ?c16 ?k16)
    (case a16 => k_is); (case l16 => k_is); (case c16 => k_is); (case k16 => k_is)
    refine' (fun d_how_many => ?n17) (TQ.isDef (x := "how_many") (st := TQ.s_how_many) (ps := ["function"]) KX G (fun _ _ _ _ _ _ us hl => match us, hl with | [_], _ => rfl) ?a17 ?l17 ?c17 ?k17)
    (case a17 => k_is); (case l17 => k_is); (case c17 => k_is); (case k17 => k_is)
    refine' (fun d_first_yes => ?n18) (TQ.isDef (x := "first_yes") (st := TQ.s_first_yes) (ps := ["function", "start"]) KX G (fun _ _ _ _ _ _ us hl => match us, hl with | [_, _], _ => rfl) ?a18 ?l18 ?c18 ?k18)
    (case a18 => k_is); (case l18 => k_is); (case c18 => k_is); (case k18 => k_is)
    refine' (fun d_first_outside => ?n19) (TQ.isDef (x := "first_outside") (st := TQ.s_first_outside) (ps := ["function", "other"]) KX G (fun _ _ _ _ _ _ us hl => match us, hl with | [_, _], _ => rfl) ?a19 ?l19 ?c19 ?k19)
    (case a19 => k_is); (case l19 => k_is); (case c19 => k_is); (case k19 => k_is)
    refine' (fun d_does_matter => ?n20) (TQ.isDef (x := "does_matter") (st := TQ.s_does_matter) (ps := ["function", "v"]) KX G (fun _ _ _ _ _ _ us hl => match us, hl with | [_, _], _ => rfl) ?a20 ?l20 ?c20 ?k20)
    (case a20 => k_is); (case l20 => k_is); (case c20 => k_is); (case k20 => k_is)
    refine' (fun d_mattering => ?n21) (TQ.isDef (x := "mattering") (st := TQ.s_mattering) (ps := ["function"]) KX G (fun _ _ _ _ _ _ us hl => match us, hl with | [_], _ => rfl) ?a21 ?l21 ?c21 ?k21)
    (case a21 => k_is); (case l21 => k_is); (case c21 => k_is); (case k21 => k_is)
    refine' (fun d_is_order => ?n23) (TQ.isDef (x := "is_order") (st := TQ.s_is_order) (ps := ["numbers"]) KX G (fun _ _ _ _ _ _ us hl => match us, hl with | [_], _ => rfl) ?a23 ?l23 ?c23 ?k23)
    (case a23 => k_is); (case l23 => k_is); (case c23 => k_is); (case k23 => k_is)
    refine' (fun d_half => ?n24) (TQ.isDef (x := "half") (st := TQ.s_half) (ps := ["part", "said"]) KX G (fun _ _ _ _ _ _ us hl => match us, hl with | [_, _], _ => rfl) ?a24 ?l24 ?c24 ?k24)
    (case a24 => k_is); (case l24 => k_is); (case c24 => k_is); (case k24 => k_is)
    refine' (fun d_shortened => ?n25) (TQ.isDef (x := "shortened") (st := TQ.s_shortened) (ps := ["part"]) KX G (fun _ _ _ _ _ _ us hl => match us, hl with | [_], _ => rfl) ?a25 ?l25 ?c25 ?k25)
    (case a25 => k_is); (case l25 => k_is); (case c25 => k_is); (case k25 => k_is)
    refine' (fun d_whole_part => ?n26) (TQ.isDef (x := "whole_part") (st := TQ.s_whole_part) (ps := ["function", "order"]) KX G (fun _ _ _ _ _ _ us hl => match us, hl with | [_, _], _ => rfl) ?a26 ?l26 ?c26 ?k26)
    (case a26 => k_is); (case l26 => k_is); (case c26 => k_is); (case k26 => k_is)
    refine' (fun d_gone_on => ?n27) (TQ.isDef (x := "gone_on") (st := TQ.s_gone_on) (ps := ["part", "said"]) KX G (fun _ _ _ _ _ _ us hl => match us, hl with | [_, _], _ => rfl) ?a27 ?l27 ?c27 ?k27)
    (case a27 => k_is); (case l27 => k_is); (case c27 => k_is); (case k27 => k_is)
    refine' (fun d_number_parts => ?n28) (TQ.isDef (x := "number_parts") (st := TQ.s_number_parts) (ps := ["part", "numbers"]) KX G (fun _ _ _ _ _ _ us hl => match us, hl with | [_, _], _ => rfl) ?a28 ?l28 ?c28 ?k28)
    (case a28 => k_is); (case l28 => k_is); (case c28 => k_is); (case k28 => k_is)
    refine' (fun d_numbered_parts => ?n29) (TQ.isDef (x := "numbered_parts") (st := TQ.s_numbered_parts) (ps := ["whole"]) KX G (fun _ _ _ _ _ _ us hl => match us, hl with | [_], _ => rfl) ?a29 ?l29 ?c29 ?k29)
    (case a29 => k_is); (case l29 => k_is); (case c29 => k_is); (case k29 => k_is)
    refine' (fun d_place_of => ?n30) (TQ.isDef (x := "place_of") (st := TQ.s_place_of) (ps := ["part", "numbers"]) KX G (fun _ _ _ _ _ _ us hl => match us, hl with | [_, _], _ => rfl) ?a30 ?l30 ?c30 ?k30)
    (case a30 => k_is); (case l30 => k_is); (case c30 => k_is); (case k30 => k_is)
    refine' (fun d_variable_of => ?n31) (TQ.isDef (x := "variable_of") (st := TQ.s_variable_of) (ps := ["part", "order"]) KX G (fun _ _ _ _ _ _ us hl => match us, hl with | [_, _], _ => rfl) ?a31 ?l31 ?c31 ?k31)
    (case a31 => k_is); (case l31 => k_is); (case c31 => k_is); (case k31 => k_is)
    refine' (fun d_nodes_told => ?n32) (TQ.isDef (x := "nodes_told") (st := TQ.s_nodes_told) (ps := ["numbers", "order"]) KX G (fun _ _ _ _ _ _ us hl => match us, hl with | [_, _], _ => rfl) ?a32 ?l32 ?c32 ?k32)
    (case a32 => k_is); (case l32 => k_is); (case c32 => k_is); (case k32 => k_is)
    refine' (fun d_how_many_nodes => ?n33) (TQ.isDef (x := "how_many_nodes") (st := TQ.s_how_many_nodes) (ps := ["function", "order"]) KX G (fun _ _ _ _ _ _ us hl => match us, hl with | [_, _], _ => rfl) ?a33 ?l33 ?c33 ?k33)
    (case a33 => k_is); (case l33 => k_is); (case c33 => k_is); (case k33 => k_is)
    refine' (fun d_orders_of => ?n34) (TQ.isDef (x := "orders_of") (st := TQ.s_orders_of) (ps := ["variables"]) KX G (fun _ _ _ _ _ _ us hl => match us, hl with | [_], _ => rfl) ?a34 ?l34 ?c34 ?k34)
    (case a34 => k_is); (case l34 => k_is); (case c34 => k_is); (case k34 => k_is)
    refine' (fun d_best_order => ?n35) (TQ.isDef (x := "best_order") (st := TQ.s_best_order) (ps := ["function", "variables"]) KX G (fun _ _ _ _ _ _ us hl => match us, hl with | [_, _], _ => rfl) ?a35 ?l35 ?c35 ?k35)
    (case a35 => k_is); (case l35 => k_is); (case c35 => k_is); (case k35 => k_is)
    refine' (fun d_new_registers => ?n41) (TQ.isDef (x := "new_registers") (st := TQ.s_new_registers) (ps := []) KX G (fun _ _ _ _ _ _ us hl => match us, hl with | [], _ => rfl) ?a41 ?l41 ?c41 ?k41)
    (case a41 => k_is); (case l41 => k_is); (case c41 => k_is); (case k41 => k_is)
    refine' (fun d_make_const => ?n42) (TQ.isDef (x := "make_const") (st := TQ.s_make_const) (ps := ["registers", "told"]) KX G (fun _ _ _ _ _ _ us hl => match us, hl with | [_, _], _ => rfl) ?a42 ?l42 ?c42 ?k42)
    (case a42 => k_is); (case l42 => k_is); (case c42 => k_is); (case k42 => k_is)
    refine' (fun d_make_var => ?n43) (TQ.isDef (x := "make_var") (st := TQ.s_make_var) (ps := ["registers", "told"]) KX G (fun _ _ _ _ _ _ us hl => match us, hl with | [_, _], _ => rfl) ?a43 ?l43 ?c43 ?k43)
    (case a43 => k_is); (case l43 => k_is); (case c43 => k_is); (case k43 => k_is)
    refine' (fun d_make_not => ?n44) (TQ.isDef (x := "make_not") (st := TQ.s_make_not) (ps := ["registers", "told"]) KX G (fun _ _ _ _ _ _ us hl => match us, hl with | [_, _], _ => rfl) ?a44 ?l44 ?c44 ?k44)
    (case a44 => k_is); (case l44 => k_is); (case c44 => k_is); (case k44 => k_is)
    refine' (fun d_make_two => ?n45) (TQ.isDef (x := "make_two") (st := TQ.s_make_two) (ps := ["registers", "told"]) KX G (fun _ _ _ _ _ _ us hl => match us, hl with | [_, _], _ => rfl) ?a45 ?l45 ?c45 ?k45)
    (case a45 => k_is); (case l45 => k_is); (case c45 => k_is); (case k45 => k_is)
    refine' (fun d_make_choose => ?n46) (TQ.isDef (x := "make_choose") (st := TQ.s_make_choose) (ps := ["registers", "told"]) KX G (fun _ _ _ _ _ _ us hl => match us, hl with | [_, _], _ => rfl) ?a46 ?l46 ?c46 ?k46)
    (case a46 => k_is); (case l46 => k_is); (case c46 => k_is); (case k46 => k_is)
    refine' (fun d_make_fix => ?n47) (TQ.isDef (x := "make_fix") (st := TQ.s_make_fix) (ps := ["registers", "told"]) KX G (fun _ _ _ _ _ _ us hl => match us, hl with | [_, _], _ => rfl) ?a47 ?l47 ?c47 ?k47)
    (case a47 => k_is); (case l47 => k_is); (case c47 => k_is); (case k47 => k_is)
    refine' (fun d_make_some => ?n48) (TQ.isDef (x := "make_some") (st := TQ.s_make_some) (ps := ["registers", "told"]) KX G (fun _ _ _ _ _ _ us hl => match us, hl with | [_, _], _ => rfl) ?a48 ?l48 ?c48 ?k48)
    (case a48 => k_is); (case l48 => k_is); (case c48 => k_is); (case k48 => k_is)
    refine' (fun d_make_all => ?n49) (TQ.isDef (x := "make_all") (st := TQ.s_make_all) (ps := ["registers", "told"]) KX G (fun _ _ _ _ _ _ us hl => match us, hl with | [_, _], _ => rfl) ?a49 ?l49 ?c49 ?k49)
    (case a49 => k_is); (case l49 => k_is); (case c49 => k_is); (case k49 => k_is)
    refine' (fun d_make_put => ?n50) (TQ.isDef (x := "make_put") (st := TQ.s_make_put) (ps := ["registers", "told"]) KX G (fun _ _ _ _ _ _ us hl => match us, hl with | [_, _], _ => rfl) ?a50 ?l50 ?c50 ?k50)
    (case a50 => k_is); (case l50 => k_is); (case c50 => k_is); (case k50 => k_is)
    refine' (fun d_with_length => ?n51) (TQ.isDef (x := "with_length") (st := TQ.s_with_length) (ps := ["numbers"]) KX G (fun _ _ _ _ _ _ us hl => match us, hl with | [_], _ => rfl) ?a51 ?l51 ?c51 ?k51)
    (case a51 => k_is); (case l51 => k_is); (case c51 => k_is); (case k51 => k_is)
    refine' (fun d_answer_value => ?n52) (TQ.isDef (x := "answer_value") (st := TQ.s_answer_value) (ps := ["registers", "told"]) KX G (fun _ _ _ _ _ _ us hl => match us, hl with | [_, _], _ => rfl) ?a52 ?l52 ?c52 ?k52)
    (case a52 => k_is); (case l52 => k_is); (case c52 => k_is); (case k52 => k_is)
    refine' (fun d_answer_count => ?n53) (TQ.isDef (x := "answer_count") (st := TQ.s_answer_count) (ps := ["registers", "told"]) KX G (fun _ _ _ _ _ _ us hl => match us, hl with | [_, _], _ => rfl) ?a53 ?l53 ?c53 ?k53)
    (case a53 => k_is); (case l53 => k_is); (case c53 => k_is); (case k53 => k_is)
    refine' (fun d_answer_first => ?n54) (TQ.isDef (x := "answer_first") (st := TQ.s_answer_first) (ps := ["registers", "told"]) KX G (fun _ _ _ _ _ _ us hl => match us, hl with | [_, _], _ => rfl) ?a54 ?l54 ?c54 ?k54)
    (case a54 => k_is); (case l54 => k_is); (case c54 => k_is); (case k54 => k_is)
    refine' (fun d_answer_matters => ?n55) (TQ.isDef (x := "answer_matters") (st := TQ.s_answer_matters) (ps := ["registers", "told"]) KX G (fun _ _ _ _ _ _ us hl => match us, hl with | [_, _], _ => rfl) ?a55 ?l55 ?c55 ?k55)
    (case a55 => k_is); (case l55 => k_is); (case c55 => k_is); (case k55 => k_is)
    refine' (fun d_answer_diagram => ?n56) (TQ.isDef (x := "answer_diagram") (st := TQ.s_answer_diagram) (ps := ["registers", "told"]) KX G (fun _ _ _ _ _ _ us hl => match us, hl with | [_, _], _ => rfl) ?a56 ?l56 ?c56 ?k56)
    (case a56 => k_is); (case l56 => k_is); (case c56 => k_is); (case k56 => k_is)
    refine' (fun d_answer_best => ?n57) (TQ.isDef (x := "answer_best") (st := TQ.s_answer_best) (ps := ["registers", "told"]) KX G (fun _ _ _ _ _ _ us hl => match us, hl with | [_, _], _ => rfl) ?a57 ?l57 ?c57 ?k57)
    (case a57 => k_is); (case l57 => k_is); (case c57 => k_is); (case k57 => k_is)
    refine' (fun d_answer_within => ?n58) (TQ.isDef (x := "answer_within") (st := TQ.s_answer_within) (ps := ["registers", "told"]) KX G (fun _ _ _ _ _ _ us hl => match us, hl with | [_, _], _ => rfl) ?a58 ?l58 ?c58 ?k58)
    (case a58 => k_is); (case l58 => k_is); (case c58 => k_is); (case k58 => k_is)
    refine' (fun d_end_of_call => ?n60) (TQ.isDef (x := "end_of_call") (st := TQ.s_end_of_call) (ps := ["calls", "at"]) KX G (fun _ _ _ _ _ _ us hl => match us, hl with | [_, _], _ => rfl) ?a60 ?l60 ?c60 ?k60)
    (case a60 => k_is); (case l60 => k_is); (case c60 => k_is); (case k60 => k_is)
    refine' (fun d_told_by => ?n61) (TQ.isDef (x := "told_by") (st := TQ.s_told_by) (ps := ["number", "numbers"]) KX G (fun _ _ _ _ _ _ us hl => match us, hl with | [_, _], _ => rfl) ?a61 ?l61 ?c61 ?k61)
    (case a61 => k_is); (case l61 => k_is); (case c61 => k_is); (case k61 => k_is)
    refine' (fun d_is_refused => ?n62) (TQ.isDef (x := "is_refused") (st := TQ.s_is_refused) (ps := ["told"]) KX G (fun _ _ _ _ _ _ us hl => match us, hl with | [_], _ => rfl) ?a62 ?l62 ?c62 ?k62)
    (case a62 => k_is); (case l62 => k_is); (case c62 => k_is); (case k62 => k_is)
    refine' (fun d_answered => ?n63) (TQ.isDef (x := "answered") (st := TQ.s_answered) (ps := ["registers", "number", "numbers"]) KX G (fun _ _ _ _ _ _ us hl => match us, hl with | [_, _, _], _ => rfl) ?a63 ?l63 ?c63 ?k63)
    (case a63 => k_is); (case l63 => k_is); (case c63 => k_is); (case k63 => k_is)
    refine' (fun d_answers => ?n65) (TQ.isDef (x := "answers") (st := TQ.s_answers) (ps := ["calls"]) KX G (fun _ _ _ _ _ _ us hl => match us, hl with | [_], _ => rfl) ?a65 ?l65 ?c65 ?k65)
    (case a65 => k_is); (case l65 => k_is); (case c65 => k_is); (case k65 => k_is)
    refine' (fun c_CASES => ?mCASES) (TQ.con_mk (x := "CASES") (i := 1024) KX G ?xCASES)
    (case xCASES => k_is)
    refine' (fun c_EITHER => ?mEITHER) (TQ.con_mk (x := "EITHER") (i := 14) KX G ?xEITHER)
    (case xEITHER => k_is)
    refine' (fun c_BOTH => ?mBOTH) (TQ.con_mk (x := "BOTH") (i := 8) KX G ?xBOTH)
    (case xBOTH => k_is)
    refine' (fun c_FIRST_ALONE => ?mFIRST_ALONE) (TQ.con_mk (x := "FIRST_ALONE") (i := 4) KX G ?xFIRST_ALONE)
    (case xFIRST_ALONE => k_is)
    refine' (fun c_VARIABLES => ?mVARIABLES) (TQ.con_mk (x := "VARIABLES") (i := 10) KX G ?xVARIABLES)
    (case xVARIABLES => k_is)
    refine' (fun c_REGISTERS => ?mREGISTERS) (TQ.con_mk (x := "REGISTERS") (i := 16) KX G ?xREGISTERS)
    (case xREGISTERS => k_is)
    refine' (fun c_DIAGRAM => ?mDIAGRAM) (TQ.con_mk (x := "DIAGRAM") (i := 13) KX G ?xDIAGRAM)
    (case xDIAGRAM => k_is)
    refine' (fun c_MOST_TO_ORDER => ?mMOST_TO_ORDER) (TQ.con_mk (x := "MOST_TO_ORDER") (i := 5) KX G ?xMOST_TO_ORDER)
    (case xMOST_TO_ORDER => k_is)
    refine' (fun n_len => ?qlen) (TQ.non_mk (x := "len") KX G ?ylen)
    (case ylen => k_is)
    refine' (fun n_range => ?qrange) (TQ.non_mk (x := "range") KX G ?yrange)
    (case yrange => k_is)
    refine' (fun n_zip => ?qzip) (TQ.non_mk (x := "zip") KX G ?yzip)
    (case yzip => k_is)
    refine' (fun n_enumerate => ?qenumerate) (TQ.non_mk (x := "enumerate") KX G ?yenumerate)
    (case yenumerate => k_is)
    refine' (fun n_sum => ?qsum) (TQ.non_mk (x := "sum") KX G ?ysum)
    (case ysum => k_is)
    refine' (fun n_sorted => ?qsorted) (TQ.non_mk (x := "sorted") KX G ?ysorted)
    (case ysorted => k_is)
    refine' (fun n_list => ?qlist) (TQ.non_mk (x := "list") KX G ?ylist)
    (case ylist => k_is)
    refine' (fun n_reversed => ?qreversed) (TQ.non_mk (x := "reversed") KX G ?yreversed)
    (case yreversed => k_is)
    refine' (fun n_tuple => ?qtuple) (TQ.non_mk (x := "tuple") KX G ?ytuple)
    (case ytuple => k_is)
    refine' (fun n_min => ?qmin) (TQ.non_mk (x := "min") KX G ?ymin)
    (case ymin => k_is)
    refine' (fun n_any => ?qany) (TQ.non_mk (x := "any") KX G ?yany)
    (case yany => k_is)
    refine' (fun n_dict => ?qdict) (TQ.non_mk (x := "dict") KX G ?ydict)
    (case ydict => k_is)
    refine' (fun T => ?nT) (TQ.calls_mk (rs := [_, _, _, _, _, _, _, _, _, _, _, _, _, _, _, _]) KX G ?gT ?lT ?eT rfl ?RT)
    (case gT => k_is); (case lT => k_is); (case eT => exact rfl)
    case RT =>
      refine' ⟨TQ.row_mk (i := 0) KX G ?rl0 ?re0 ?rm0 ?rf0 ?rg0, ?rn0⟩
      (case rl0 => k_is); (case re0 => exact rfl); (case rm0 => k_is); (case rf0 => exact .cons ⟨_, rfl⟩ (.cons ⟨_, rfl⟩ (.nil))); (case rg0 => k_is)
      refine' ⟨TQ.row_mk (i := 1) KX G ?rl1 ?re1 ?rm1 ?rf1 ?rg1, ?rn1⟩
      (case rl1 => k_is); (case re1 => exact rfl); (case rm1 => k_is); (case rf1 => exact .cons ⟨_, rfl⟩ (.cons ⟨_, rfl⟩ (.nil))); (case rg1 => k_is)
      refine' ⟨TQ.row_mk (i := 2) KX G ?rl2 ?re2 ?rm2 ?rf2 ?rg2, ?rn2⟩
      (case rl2 => k_is); (case re2 => exact rfl); (case rm2 => k_is); (case rf2 => exact .cons ⟨_, rfl⟩ (.cons ⟨_, rfl⟩ (.nil))); (case rg2 => k_is)
      refine' ⟨TQ.row_mk (i := 3) KX G ?rl3 ?re3 ?rm3 ?rf3 ?rg3, ?rn3⟩
      (case rl3 => k_is); (case re3 => exact rfl); (case rm3 => k_is); (case rf3 => exact .cons ⟨_, rfl⟩ (.cons ⟨_, rfl⟩ (.cons ⟨_, rfl⟩ (.cons ⟨_, rfl⟩ (.nil))))); (case rg3 => k_is)
      refine' ⟨TQ.row_mk (i := 4) KX G ?rl4 ?re4 ?rm4 ?rf4 ?rg4, ?rn4⟩
      (case rl4 => k_is); (case re4 => exact rfl); (case rm4 => k_is); (case rf4 => exact .cons ⟨_, rfl⟩ (.cons ⟨_, rfl⟩ (.cons ⟨_, rfl⟩ (.cons ⟨_, rfl⟩ (.nil))))); (case rg4 => k_is)
      refine' ⟨TQ.row_mk (i := 5) KX G ?rl5 ?re5 ?rm5 ?rf5 ?rg5, ?rn5⟩
      (case rl5 => k_is); (case re5 => exact rfl); (case rm5 => k_is); (case rf5 => exact .cons ⟨_, rfl⟩ (.cons ⟨_, rfl⟩ (.cons ⟨_, rfl⟩ (.cons ⟨_, rfl⟩ (.nil))))); (case rg5 => k_is)
      refine' ⟨TQ.row_mk (i := 6) KX G ?rl6 ?re6 ?rm6 ?rf6 ?rg6, ?rn6⟩
      (case rl6 => k_is); (case re6 => exact rfl); (case rm6 => k_is); (case rf6 => exact .cons ⟨_, rfl⟩ (.cons ⟨_, rfl⟩ (.cons ⟨_, rfl⟩ (.nil)))); (case rg6 => k_is)
      refine' ⟨TQ.row_mk (i := 7) KX G ?rl7 ?re7 ?rm7 ?rf7 ?rg7, ?rn7⟩
      (case rl7 => k_is); (case re7 => exact rfl); (case rm7 => k_is); (case rf7 => exact .cons ⟨_, rfl⟩ (.cons ⟨_, rfl⟩ (.cons ⟨_, rfl⟩ (.nil)))); (case rg7 => k_is)
      refine' ⟨TQ.row_mk (i := 8) KX G ?rl8 ?re8 ?rm8 ?rf8 ?rg8, ?rn8⟩
      (case rl8 => k_is); (case re8 => exact rfl); (case rm8 => k_is); (case rf8 => exact .cons ⟨_, rfl⟩ (.cons ⟨_, rfl⟩ (.cons ⟨_, rfl⟩ (.cons ⟨_, rfl⟩ (.nil))))); (case rg8 => k_is)
      refine' ⟨TQ.row_mk (i := 9) KX G ?rl9 ?re9 ?rm9 ?rf9 ?rg9, ?rn9⟩
      (case rl9 => k_is); (case re9 => exact rfl); (case rm9 => k_is); (case rf9 => exact .cons ⟨_, rfl⟩ (.cons ⟨_, rfl⟩ (.nil))); (case rg9 => k_is)
      refine' ⟨TQ.row_mk (i := 10) KX G ?rl10 ?re10 ?rm10 ?rf10 ?rg10, ?rn10⟩
      (case rl10 => k_is); (case re10 => exact rfl); (case rm10 => k_is); (case rf10 => exact .cons ⟨_, rfl⟩ (.nil)); (case rg10 => k_is)
      refine' ⟨TQ.row_mk (i := 11) KX G ?rl11 ?re11 ?rm11 ?rf11 ?rg11, ?rn11⟩
      (case rl11 => k_is); (case re11 => exact rfl); (case rm11 => k_is); (case rf11 => exact .cons ⟨_, rfl⟩ (.cons ⟨_, rfl⟩ (.nil))); (case rg11 => k_is)
      refine' ⟨TQ.row_mk (i := 12) KX G ?rl12 ?re12 ?rm12 ?rf12 ?rg12, ?rn12⟩
      (case rl12 => k_is); (case re12 => exact rfl); (case rm12 => k_is); (case rf12 => exact .cons ⟨_, rfl⟩ (.nil)); (case rg12 => k_is)
      refine' ⟨TQ.row_mk (i := 13) KX G ?rl13 ?re13 ?rm13 ?rf13 ?rg13, ?rn13⟩
      (case rl13 => k_is); (case re13 => exact rfl); (case rm13 => k_is); (case rf13 => exact .cons ⟨_, rfl⟩ (.cons ⟨_, rfl⟩ (.nil))); (case rg13 => k_is)
      refine' ⟨TQ.row_mk (i := 14) KX G ?rl14 ?re14 ?rm14 ?rf14 ?rg14, ?rn14⟩
      (case rl14 => k_is); (case re14 => exact rfl); (case rm14 => k_is); (case rf14 => exact .cons ⟨_, rfl⟩ (.nil)); (case rg14 => k_is)
      refine' ⟨TQ.row_mk (i := 15) KX G ?rl15 ?re15 ?rm15 ?rf15 ?rg15, ?rn15⟩
      (case rl15 => k_is); (case re15 => exact rfl); (case rm15 => k_is); (case rf15 => exact .cons ⟨_, rfl⟩ (.cons ⟨_, rfl⟩ (.nil))); (case rg15 => k_is)
      exact trivial
    obtain ⟨ra, na, fna, T⟩ := T
    refine' (fun Gr => ?nG) (TQ.great_mk (w := w) KX G ?gG ?lG ?kG ?low ?g1 ?g2 ?g3 ?g4 ?g5 ?g6 ?g7 ?g8 ?n1 ?n2 ?n3)
    (case gG => k_is); (case lG => k_is); (case kG => exact ⟨⟨_, _, rfl, rfl⟩, ⟨⟨_, _, rfl, rfl⟩, ⟨⟨_, _, rfl, rfl⟩, ⟨⟨_, _, rfl, rfl⟩, ⟨⟨_, _, rfl, rfl⟩, ⟨⟨_, _, rfl, rfl⟩, ⟨⟨_, _, rfl, rfl⟩, ⟨⟨_, _, rfl, rfl⟩, trivial⟩⟩⟩⟩⟩⟩⟩⟩); (case low => rfl)
    (case g1 => k_is); (case g2 => k_is); (case g3 => k_is); (case g4 => k_is); (case g5 => k_is); (case g6 => k_is); (case g7 => k_is); (case g8 => k_is); (case n1 => k_is); (case n2 => k_is); (case n3 => k_is)
    exact TQ.end_mk KX hmg ⟨d_bit, d_everywhere, d_variable, d_opposite, d_joined, d_chosen, d_case_with, d_fixed, d_for_either, d_for_both, d_put_for, d_how_many, d_first_yes, d_first_outside, d_does_matter, d_mattering, d_is_order, d_half, d_shortened, d_whole_part, d_gone_on, d_number_parts, d_numbered_parts, d_place_of, d_variable_of, d_nodes_told, d_how_many_nodes, d_orders_of, d_best_order, d_new_registers, d_make_const, d_make_var, d_make_not, d_make_two, d_make_choose, d_make_fix, d_make_some, d_make_all, d_make_put, d_with_length, d_answer_value, d_answer_count, d_answer_first, d_answer_matters, d_answer_diagram, d_answer_best, d_answer_within, d_end_of_call, d_told_by, d_is_refused, d_answered, d_answers⟩ ⟨c_CASES, c_EITHER, c_BOTH, c_FIRST_ALONE, c_VARIABLES, c_REGISTERS, c_DIAGRAM, c_MOST_TO_ORDER⟩ ⟨n_len, n_range, n_zip, n_enumerate, n_sum, n_sorted, n_list, n_reversed, n_tuple, n_min, n_any, n_dict⟩ T Gr hx ho hd hc
  case S =>
    intro K P H xs a hP hwi hask hx
    cases hx with
    | cons h1 h2 =>
      cases h2
      cases h1 with
      | lst hs ha =>
        have e := L2.ints_dw a.1 _ ha
        subst e
        exact TQ.end_sp hP hs hask fun H' p hp => .lst (L2.SqL.of hp) (L2.dw_ints _)
#print axioms PySem.Challenge.cw_tenquestions_s01_answers_holds
