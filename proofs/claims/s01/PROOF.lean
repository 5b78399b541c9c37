import PyProof.Rows.All
import Wide.All
import OpenK.AllK
import Wide.FinOn
import Open.SpecLaws
import KE.OsGo
import HandS.ForMost
import HandS.ForSpec
import HandS.Iter
import HandS.Zip
import HandS.Comp
import PySem.Challenge.RW_logcuts_s01_answers
import KE.GoesZip
import KE.GoesMore
import KE.GoesEnum
import PyProof.EqAt
import PyProof.EqKinds
import PyProof.TupleCall
set_option Elab.async false
set_option maxRecDepth 100000
set_option maxHeartbeats 2000000
/-! The mathematics of the best cutting: one recursion without tables (bestAt), and that the specification's tables hold it. -/
namespace LC
open Sw95
abbrev dflt : Best := ⟨0, 1, []⟩
/-! ### better -/
theorem better_assoc (a b c : Best) : better (better a b) c = better a (better b c) := by
  obtain ⟨av, an, ac⟩ := a
  obtain ⟨bv, bn, bc⟩ := b
  obtain ⟨cv, cn, cc⟩ := c
  unfold better
  by_cases h1 : av < bv
  · rw [if_pos h1]
    by_cases h2 : bv < cv
    · rw [if_pos h2, if_pos (show av < cv by omega)]
    · rw [if_neg h2]
      by_cases h3 : cv < bv
      · rw [if_pos h3, if_pos h1]
      · rw [if_neg h3, if_pos (show av < bv from h1)]
  · rw [if_neg h1]
    by_cases h4 : bv < av
    · rw [if_pos h4]
      by_cases h2 : bv < cv
      · rw [if_pos h2]
      · rw [if_neg h2]
        by_cases h3 : cv < bv
        · rw [if_pos h3, if_neg (show ¬ av < cv by omega), if_pos (show cv < av by omega), if_neg h1, if_pos h4]
        · rw [if_neg h3, if_neg (show ¬ av < cv by omega), if_pos (show cv < av by omega), if_neg (show ¬ av < bv from h1), if_pos (show bv < av from h4)]
    · rw [if_neg h4]
      have e : av = bv := by omega
      subst e
      by_cases h2 : av < cv
      · rw [if_pos (show av < cv from h2), if_pos h2]
        rw [if_pos (show av < cv from h2)]
      · rw [if_neg (show ¬ av < cv from h2), if_neg h2]
        by_cases h3 : cv < av
        · rw [if_pos (show cv < av from h3), if_pos h3]
          simp
        · rw [if_neg (show ¬ cv < av from h3), if_neg h3]
          simp [Nat.add_assoc]
theorem foldl_better : ∀ (L : List Best) (a s : Best), (L ++ [s]).foldl better a = better a (L.foldr better s)
  | [], a, s => rfl
  | b :: L, a, s => by
    show (L ++ [s]).foldl better (better a b) = better a (better b (L.foldr better s))
    rw [foldl_better L (better a b) s, better_assoc]
/-- the specification's fold, from none -/
def foldO (L : List Best) : Option Best := L.foldl (fun (m : Option Best) b => match m with
            | none => some b
            | some a => some (better a b)) none
theorem foldO_some : ∀ (L : List Best) (a : Best), L.foldl (fun (m : Option Best) b => match m with
            | none => some b
            | some a => some (better a b)) (some a) = some (L.foldl better a)
  | [], _ => rfl
  | b :: L, a => foldO_some L (better a b)
theorem foldO_eq (L : List Best) (s : Best) : (foldO (L ++ [s])).getD s = L.foldr better s := by
  cases L with
  | nil => rfl
  | cons b L =>
    show (((L ++ [s]).foldl _ (some b)).getD s) = better b (L.foldr better s)
    rw [foldO_some, foldl_better]
    rfl
/-! ### the recursion, as a list of functions -/
def cand1 (ks : List Kind) (x : Nat) (l : List Part) (left : List Nat) (rest : Nat → List Nat → Best) (k : Nat) : Option Best := match ks[k]? with
  | none => none
  | some z => if left.getD k 0 = 0 then none else (worth z l).map fun v => let b : Best := rest z.long (left.set k (left.getD k 0 - 1))
    (⟨v + b.value, b.many, (x, k) :: b.cutting⟩ : Best)
def rowsF (ks : List Kind) : Nat → List Part → List (List Nat → Best)
  | _, [] => [fun _ => dflt]
  | x, p :: l =>
    let later := rowsF ks (x + 1) l
    (fun left => ((List.range ks.length).filterMap (cand1 ks x (p :: l) left fun j lf => (later.getD (j - 1) fun _ => dflt) lf)).foldr better ((later.getD 0 fun _ => dflt) left)) :: later
/-- the best from a place on: x the place, l the parts from it on, left how many of each kind may still be cut -/
def bestAt (ks : List Kind) (x : Nat) (l : List Part) : List Nat → Best := (rowsF ks x l).getD 0 fun _ => dflt
theorem rowsF_len (ks : List Kind) : ∀ (x : Nat) (l : List Part), (rowsF ks x l).length = l.length + 1
  | _, [] => rfl
  | x, p :: l => by
    show ((_ :: rowsF ks (x + 1) l).length) = _
    rw [List.length_cons, rowsF_len ks (x + 1) l]
    rfl
theorem rowsF_at (ks : List Kind) : ∀ (x : Nat) (l : List Part) (j : Nat), j ≤ l.length → (rowsF ks x l).getD j (fun _ => dflt) = bestAt ks (x + j) (l.drop j)
  | x, l, 0, _ => by simp [bestAt]
  | x, [], j + 1, h => by simp at h
  | x, p :: l, j + 1, h => by
    have ih := rowsF_at ks (x + 1) l j (by simpa using h)
    show (_ :: rowsF ks (x + 1) l).getD (j + 1) _ = _
    rw [List.getD_cons_succ, ih, List.drop_succ_cons, show x + 1 + j = x + (j + 1) by omega]
theorem bestAt_nil (ks : List Kind) (x : Nat) (left : List Nat) : bestAt ks x [] left = dflt := rfl
theorem worth_some {z : Kind} {l : List Part} {v : Nat} (h : worth z l = some v) : 1 ≤ z.long ∧ z.long ≤ l.length := by
  unfold worth at h
  split at h
  · cases h
  · omega
def cand (ks : List Kind) (x : Nat) (l : List Part) (left : List Nat) (k : Nat) : Option Best := cand1 ks x l left (fun j lf => bestAt ks (x + j) (l.drop j) lf) k
theorem cand1_congr {ks : List Kind} {x : Nat} {l : List Part} {left : List Nat} {r1 r2 : Nat → List Nat → Best} (h : ∀ j, 1 ≤ j → j ≤ l.length → r1 j = r2 j) (k : Nat) : cand1 ks x l left r1 k = cand1 ks x l left r2 k := by
  unfold cand1
  cases hk : ks[k]? with
  | none => rfl
  | some z =>
    show (if _ then _ else _) = (if _ then _ else _)
    by_cases h0 : left.getD k 0 = 0
    · rw [if_pos h0, if_pos h0]
    · rw [if_neg h0, if_neg h0]
      cases hw : worth z l with
      | none => rfl
      | some v =>
        obtain ⟨a, b⟩ := worth_some hw
        show some _ = some _
        rw [h z.long a b]
theorem bestAt_cons (ks : List Kind) (x : Nat) (p : Part) (l : List Part) (left : List Nat) :
    bestAt ks x (p :: l) left = ((List.range ks.length).filterMap (cand ks x (p :: l) left)).foldr better (bestAt ks (x + 1) l left) := by
  show (List.filterMap _ _).foldr better ((rowsF ks (x + 1) l).getD 0 (fun _ => dflt) left) = _
  have e : ∀ k, cand1 ks x (p :: l) left (fun j lf => ((rowsF ks (x + 1) l).getD (j - 1) fun _ => dflt) lf) k = cand ks x (p :: l) left k := fun k => by
    refine cand1_congr (fun j h1 h2 => ?_) k
    have h3 : j - 1 ≤ l.length := by
      rw [List.length_cons] at h2
      omega
    rw [rowsF_at ks (x + 1) l (j - 1) h3]
    obtain ⟨i, rfl⟩ : ∃ i, j = i + 1 := ⟨j - 1, by omega⟩
    rw [List.drop_succ_cons, Nat.add_sub_cancel, show x + 1 + i = x + (i + 1) by omega]
  rw [show (cand1 ks x (p :: l) left fun j lf => ((rowsF ks (x + 1) l).getD (j - 1) fun _ => dflt) lf) = cand ks x (p :: l) left from funext e]
  rfl
/-! ### the specification's numbering of what is left -/
def Fits (ks : List Kind) (left : List Nat) : Prop := left.length = ks.length ∧ ∀ i, i < ks.length → left.getD i 0 ≤ ((ks[i]?).map fun z => z.most).getD 0
inductive Fit : List Kind → List Nat → Prop
  | nil : Fit [] []
  | cons {k ks a l} : a ≤ k.most → Fit ks l → Fit (k :: ks) (a :: l)
def statesR : List Kind → Nat
  | [] => 1
  | k :: ks => (k.most + 1) * statesR ks
theorem states_go (ks : List Kind) : ∀ n, ks.foldl (fun n k => n * (k.most + 1)) n = n * statesR ks := by
  induction ks with
  | nil => intro n; simp [statesR]
  | cons k ks ih => intro n; rw [List.foldl_cons, ih, statesR, Nat.mul_assoc]
theorem states_eq (ks : List Kind) : states ks = statesR ks := by
  unfold states
  rw [states_go, Nat.one_mul]
theorem statesR_pos : ∀ ks : List Kind, 0 < statesR ks
  | [] => Nat.one_pos
  | k :: ks => Nat.mul_pos (Nat.succ_pos _) (statesR_pos ks)
def numR : List Kind → List Nat → Nat
  | k :: ks, a :: l => a * statesR ks + numR ks l
  | _, _ => 0
theorem number_go : ∀ (ks : List Kind) (l : List Nat) (n : Nat), l.length = ks.length → (ks.zip l).foldl (fun n (x : Kind × Nat) => n * (x.1.most + 1) + x.2) n = n * statesR ks + numR ks l
  | [], [], n, _ => by simp [statesR, numR]
  | [], _ :: _, _, h => by simp at h
  | _ :: _, [], _, h => by simp at h
  | k :: ks, a :: l, n, h => by
    rw [List.zip_cons_cons, List.foldl_cons, number_go ks l _ (by simpa using h)]
    show (n * (k.most + 1) + a) * statesR ks + numR ks l = n * ((k.most + 1) * statesR ks) + (a * statesR ks + numR ks l)
    rw [Nat.add_mul, Nat.mul_assoc, Nat.add_assoc]
theorem Fit.len {ks : List Kind} {l : List Nat} (h : Fit ks l) : l.length = ks.length := by
  induction h with
  | nil => rfl
  | cons _ _ ih => rw [List.length_cons, List.length_cons, ih]
theorem number_eq {ks : List Kind} {l : List Nat} (h : Fit ks l) : number ks l = numR ks l := by
  unfold number
  rw [number_go ks l 0 h.len, Nat.zero_mul, Nat.zero_add]
theorem numR_lt {ks : List Kind} {l : List Nat} (h : Fit ks l) : numR ks l < statesR ks := by
  induction h with
  | nil => exact Nat.one_pos
  | @cons k ks a l ha _ ih =>
    show a * statesR ks + numR ks l < (k.most + 1) * statesR ks
    have : a * statesR ks ≤ k.most * statesR ks := Nat.mul_le_mul_right _ ha
    rw [Nat.add_mul, Nat.one_mul]
    omega
/-- leftOf's fold: the rest above, the digits -/
theorem leftOf_go : ∀ (ks : List Kind) (n : Nat), (ks.foldr (fun k (x : Nat × List Nat) => (x.1 / (k.most + 1), x.1 % (k.most + 1) :: x.2)) (n, [])).1 = n / statesR ks
  | [], n => by simp [statesR]
  | k :: ks, n => by
    rw [List.foldr_cons]
    show (ks.foldr _ (n, [])).1 / (k.most + 1) = _
    rw [leftOf_go ks n, statesR, Nat.div_div_eq_div_mul, Nat.mul_comm]
theorem leftOf_cons (k : Kind) (ks : List Kind) (n : Nat) : leftOf (k :: ks) n = n / statesR ks % (k.most + 1) :: leftOf ks n := by
  show (ks.foldr _ (n, [])).1 % (k.most + 1) :: (ks.foldr _ (n, [])).2 = _
  rw [leftOf_go ks n]
  rfl
theorem leftOf_fit : ∀ (ks : List Kind) (n : Nat), Fit ks (leftOf ks n)
  | [], _ => .nil
  | k :: ks, n => by
    rw [leftOf_cons]
    exact .cons (Nat.le_of_lt_succ (Nat.mod_lt _ (Nat.succ_pos _))) (leftOf_fit ks n)
theorem leftOf_add : ∀ (ks : List Kind) (a n : Nat), leftOf ks (a * statesR ks + n) = leftOf ks n
  | [], _, _ => rfl
  | k :: ks, a, n => by
    rw [leftOf_cons, leftOf_cons]
    have e : a * statesR (k :: ks) + n = (a * (k.most + 1)) * statesR ks + n := by rw [statesR, Nat.mul_assoc]
    rw [e, leftOf_add ks, Nat.add_comm, Nat.add_mul_div_right _ _ (statesR_pos ks), Nat.add_mul_mod_self_right]
theorem leftOf_num {ks : List Kind} {l : List Nat} (h : Fit ks l) : leftOf ks (numR ks l) = l := by
  induction h with
  | nil => rfl
  | @cons k ks a l ha hf ih =>
    rw [leftOf_cons]
    show (a * statesR ks + numR ks l) / statesR ks % (k.most + 1) :: leftOf ks (a * statesR ks + numR ks l) = a :: l
    rw [leftOf_add, ih, Nat.add_comm, Nat.add_mul_div_right _ _ (statesR_pos ks), Nat.div_eq_of_lt (numR_lt hf), Nat.zero_add, Nat.mod_eq_of_lt (Nat.lt_succ_of_le ha)]
theorem Fit.set {ks : List Kind} {l : List Nat} (h : Fit ks l) : ∀ (k : Nat), Fit ks (l.set k (l.getD k 0 - 1)) := by
  induction h with
  | nil => intro k; exact .nil
  | @cons z ks a l ha hf ih =>
    intro k
    cases k with
    | zero => exact .cons (show a - 1 ≤ z.most by omega) hf
    | succ k => exact .cons ha (ih k)
theorem Fit.full : ∀ (ks : List Kind), Fit ks (ks.map fun k => k.most)
  | [] => .nil
  | k :: ks => .cons (Nat.le_refl _) (Fit.full ks)
/-! ### the specification's tables -/
theorem arr_getD {f : Nat → Best} {m n : Nat} (h : n < m) (d : Best) : ((Array.range m).map f).getD n d = f n := by
  simp [Array.getD, h]
theorem spec_rows (ks : List Kind) : ∀ (l : List Part) (x j : Nat), j ≤ l.length → ∀ n, n < states ks → ((rowsFrom ks x l).getD j #[]).getD n dflt = bestAt ks (x + j) (l.drop j) (leftOf ks n)
  | [], x, j, hj, n, hn => by
    obtain rfl : j = 0 := Nat.le_zero.mp hj
    show ((Array.range (states ks)).map fun _ => dflt).getD n dflt = dflt
    exact arr_getD hn _
  | p :: l, x, j + 1, hj, n, hn => by
    have ih := spec_rows ks l (x + 1) j (by simpa using hj) n hn
    rw [List.drop_succ_cons, show x + (j + 1) = x + 1 + j by omega, ← ih]
    rfl
  | p :: l, x, 0, hj, n, hn => by
    have ih := spec_rows ks l (x + 1)
    rw [List.drop_zero, Nat.add_zero, bestAt_cons]
    show (((Array.range (states ks)).map fun n => _).getD n dflt) = _
    rw [arr_getD hn]
    have hs : ((rowsFrom ks (x + 1) l).getD 0 #[]).getD n dflt = bestAt ks (x + 1) l (leftOf ks n) := by
      have := ih 0 (Nat.zero_le _) n hn
      simpa using this
    show (foldO (((List.range ks.length).filterMap (cand1 ks x (p :: l) (leftOf ks n) fun j lf => ((rowsFrom ks (x + 1) l).getD (j - 1) #[]).getD (number ks lf) dflt)) ++ [((rowsFrom ks (x + 1) l).getD 0 #[]).getD n dflt])).getD (((rowsFrom ks (x + 1) l).getD 0 #[]).getD n dflt) = _
    rw [foldO_eq, hs]
    congr 1
    refine congrArg (fun f => List.filterMap f _) (funext fun k => ?_)
    unfold cand cand1
    cases hk : ks[k]? with
    | none => rfl
    | some z =>
      show (if _ then _ else _) = (if _ then _ else _)
      by_cases h0 : (leftOf ks n).getD k 0 = 0
      · rw [if_pos h0, if_pos h0]
      · rw [if_neg h0, if_neg h0]
        cases hw : worth z (p :: l) with
        | none => rfl
        | some v =>
          obtain ⟨h1, h2⟩ := worth_some hw
          rw [List.length_cons] at h2
          have hf := (leftOf_fit ks n).set k
          have q := ih (z.long - 1) (by omega) (number ks ((leftOf ks n).set k ((leftOf ks n).getD k 0 - 1))) (by rw [number_eq hf, states_eq]; exact numR_lt hf)
          rw [number_eq hf, leftOf_num hf] at q
          show some _ = some _
          dsimp only
          rw [number_eq hf, q]
          obtain ⟨i, hi⟩ : ∃ i, z.long = i + 1 := ⟨z.long - 1, by omega⟩
          rw [hi, List.drop_succ_cons, Nat.add_sub_cancel, show x + 1 + i = x + (i + 1) by omega]
theorem best_eq (w : Wood) : w.best = bestAt w.kinds 0 w.stem (w.kinds.map fun k => k.most) := by
  have hf := Fit.full w.kinds
  have := spec_rows w.kinds w.stem 0 0 (Nat.zero_le _) (number w.kinds (w.kinds.map fun k => k.most)) (by rw [number_eq hf, states_eq]; exact numR_lt hf)
  unfold Wood.best
  rw [this, number_eq hf, leftOf_num hf]
  simp
end LC
/-! Stocks as numbers (the program's digits), the logs that the program weighs, the walk along the best cutting. -/
namespace LC
open Sw95
/-! ### stocks -/
def digits : List Nat → Nat → List Nat
  | [], _ => []
  | o :: os, n => n % (o + 1) :: digits os (n / (o + 1))
def stepAt : List Nat → Nat → Nat
  | _, 0 => 1
  | [], _ + 1 => 1
  | o :: os, k + 1 => (o + 1) * stepAt os k
theorem stepAt_pos : ∀ (os : List Nat) (k : Nat), 0 < stepAt os k
  | _, 0 => by simp [stepAt]
  | [], _ + 1 => by simp [stepAt]
  | o :: os, k + 1 => Nat.mul_pos (Nat.succ_pos _) (stepAt_pos os k)
theorem stepAt_succ : ∀ (os : List Nat) (k o : Nat), os[k]? = some o → stepAt os (k + 1) = stepAt os k * (o + 1)
  | [], k, o, h => by simp at h
  | a :: os, 0, o, h => by
    have e : a = o := by simpa using h
    subst e
    simp [stepAt]
  | a :: os, k + 1, o, h => by
    have ih := stepAt_succ os k o (by simpa using h)
    show (a + 1) * stepAt os (k + 1) = (a + 1) * stepAt os k * (o + 1)
    rw [ih, Nat.mul_assoc]
theorem digits_len : ∀ (os : List Nat) (n : Nat), (digits os n).length = os.length
  | [], _ => rfl
  | o :: os, n => by
    show (digits os _).length + 1 = _
    rw [digits_len os]
    rfl
theorem in_stock_iff : ∀ (os : List Nat) (k n : Nat), k < os.length → (stepAt os k ≤ n % stepAt os (k + 1) ↔ (digits os n).getD k 0 ≠ 0)
  | [], k, n, h => by simp at h
  | o :: os, 0, n, _ => by
    show 1 ≤ n % ((o + 1) * stepAt os 0) ↔ n % (o + 1) ≠ 0
    have : stepAt os 0 = 1 := by cases os <;> rfl
    rw [this, Nat.mul_one]
    omega
  | o :: os, k + 1, n, h => by
    have ih := in_stock_iff os k (n / (o + 1)) (by simpa using h)
    show (o + 1) * stepAt os k ≤ n % ((o + 1) * stepAt os (k + 1)) ↔ (digits os (n / (o + 1))).getD k 0 ≠ 0
    rw [← ih, Nat.mod_mul]
    have hm : n % (o + 1) < o + 1 := Nat.mod_lt _ (Nat.succ_pos _)
    constructor
    · intro q
      apply Classical.byContradiction
      intro c
      have c1 : n / (o + 1) % stepAt os (k + 1) + 1 ≤ stepAt os k := by omega
      have c2 := Nat.mul_le_mul_left (o + 1) c1
      rw [Nat.mul_add, Nat.mul_one] at c2
      omega
    · intro q
      have := Nat.mul_le_mul_left (o + 1) q
      omega
theorem digit_le : ∀ (os : List Nat) (k n : Nat), (digits os n).getD k 0 ≠ 0 → stepAt os k ≤ n
  | [], k, n, h => by simp [digits] at h
  | o :: os, 0, n, h => by
    have h' : n % (o + 1) ≠ 0 := h
    show 1 ≤ n
    cases n with
    | zero => simp at h'
    | succ n => omega
  | o :: os, k + 1, n, h => by
    have ih := digit_le os k (n / (o + 1)) h
    show (o + 1) * stepAt os k ≤ n
    have := Nat.mul_le_mul_left (o + 1) ih
    have h2 := Nat.mul_div_le n (o + 1)
    omega
theorem digits_sub : ∀ (os : List Nat) (k n : Nat), (digits os n).getD k 0 ≠ 0 → digits os (n - stepAt os k) = (digits os n).set k ((digits os n).getD k 0 - 1)
  | [], k, n, h => by simp [digits] at h
  | o :: os, 0, n, h => by
    have h' : n % (o + 1) ≠ 0 := h
    show (n - 1) % (o + 1) :: digits os ((n - 1) / (o + 1)) = (n % (o + 1) - 1) :: digits os (n / (o + 1))
    have e := Nat.div_add_mod n (o + 1)
    have hm : n % (o + 1) < o + 1 := Nat.mod_lt _ (Nat.succ_pos _)
    have e2 : n - 1 = (n % (o + 1) - 1) + (o + 1) * (n / (o + 1)) := by omega
    rw [e2, Nat.add_mul_mod_self_left, Nat.mod_eq_of_lt (by omega), Nat.add_mul_div_left _ _ (Nat.succ_pos o), Nat.div_eq_of_lt (by omega), Nat.zero_add]
  | o :: os, k + 1, n, h => by
    have ih := digits_sub os k (n / (o + 1)) h
    have hl := digit_le os k (n / (o + 1)) h
    show (n - (o + 1) * stepAt os k) % (o + 1) :: digits os ((n - (o + 1) * stepAt os k) / (o + 1)) = n % (o + 1) :: (digits os (n / (o + 1))).set k ((digits os (n / (o + 1))).getD k 0 - 1)
    rw [← ih]
    have e := Nat.div_add_mod n (o + 1)
    have hm : n % (o + 1) < o + 1 := Nat.mod_lt _ (Nat.succ_pos _)
    have m := Nat.mul_le_mul_left (o + 1) hl
    have e2 : n - (o + 1) * stepAt os k = n % (o + 1) + (o + 1) * (n / (o + 1) - stepAt os k) := by
      rw [Nat.mul_sub]
      omega
    rw [e2, Nat.add_mul_mod_self_left, Nat.mod_mod, Nat.add_mul_div_left _ _ (Nat.succ_pos o), Nat.div_eq_of_lt hm, Nat.zero_add]
theorem digits_full : ∀ (os : List Nat), digits os (stepAt os os.length - 1) = os
  | [] => rfl
  | o :: os => by
    have ih := digits_full os
    have hp := stepAt_pos os os.length
    show ((o + 1) * stepAt os os.length - 1) % (o + 1) :: digits os (((o + 1) * stepAt os os.length - 1) / (o + 1)) = o :: os
    have e2 : (o + 1) * stepAt os os.length - 1 = o + (o + 1) * (stepAt os os.length - 1) := by
      obtain ⟨m, hm⟩ : ∃ m, stepAt os os.length = m + 1 := ⟨stepAt os os.length - 1, by omega⟩
      rw [hm, Nat.mul_add, Nat.mul_one, Nat.add_sub_cancel]
      omega
    rw [e2, Nat.add_mul_mod_self_left, Nat.mod_eq_of_lt (Nat.lt_succ_self o), Nat.add_mul_div_left _ _ (Nat.succ_pos o), Nat.div_eq_of_lt (Nat.lt_succ_self o), Nat.zero_add, ih]
/-- the list of steps -/
def stepsL (os : List Nat) : List Nat := (List.range (os.length + 1)).map (stepAt os)
theorem stepsL_len (os : List Nat) : (stepsL os).length = os.length + 1 := by simp [stepsL]
theorem stepsL_at {os : List Nat} {k : Nat} (h : k ≤ os.length) : (stepsL os)[k]? = some (stepAt os k) := by
  unfold stepsL
  rw [List.getElem?_map, List.getElem?_range (by omega)]
  rfl
theorem stepAt_take : ∀ (os : List Nat) (i k : Nat), k ≤ i → stepAt (os.take i) k = stepAt os k
  | _, _, 0, _ => by simp [stepAt]
  | [], _, _ + 1, _ => by simp [stepAt]
  | o :: os, 0, k + 1, h => by omega
  | o :: os, i + 1, k + 1, h => by
    show (o + 1) * stepAt (os.take i) k = (o + 1) * stepAt os k
    rw [stepAt_take os i k (by omega)]
theorem stepsL_take {os : List Nat} {i : Nat} {o : Nat} (h : os[i]? = some o) : stepsL (os.take (i + 1)) = stepsL (os.take i) ++ [stepAt os i * (o + 1)] := by
  have hi : i < os.length := (List.getElem?_eq_some_iff.mp h).1
  unfold stepsL
  rw [List.length_take, List.length_take, show min (i + 1) os.length = i + 1 by omega, show min i os.length = i by omega, List.range_succ, List.map_append]
  congr 1
  · refine List.map_congr_left fun k hk => ?_
    rw [List.mem_range] at hk
    rw [stepAt_take _ _ _ (by omega), stepAt_take _ _ _ (by omega)]
  · rw [List.map_singleton, stepAt_take _ _ _ (by omega), stepAt_succ os i o h]
/-- 5 ways for each of 3 kinds and one more -/
theorem stepAt_le : ∀ (os : List Nat) (k : Nat), (∀ o ∈ os, o ≤ 5) → stepAt os k ≤ 6 ^ os.length
  | os, 0, _ => by
    have e : stepAt os 0 = 1 := by cases os <;> rfl
    rw [e]
    exact Nat.pos_of_ne_zero (by simp)
  | [], _ + 1, _ => by simp [stepAt]
  | o :: os, k + 1, h => by
    have ih := stepAt_le os k fun x hx => h x (List.mem_cons_of_mem _ hx)
    have ho := h o List.mem_cons_self
    show (o + 1) * stepAt os k ≤ 6 ^ (os.length + 1)
    rw [Nat.pow_succ, Nat.mul_comm (6 ^ os.length)]
    exact Nat.mul_le_mul (by omega) ih
/-! ### what the program weighs -/
/-- a log that may be cut: its kind's number, its kind, its worth -/
def lg (ks : List Kind) (l : List Part) (k : Nat) : Option (Nat × Kind × Nat) := match ks[k]? with
  | none => none
  | some z => (worth z l).map fun v => (k, z, v)
/-- the program's logs, the highest kind first -/
def logsOf (ks : List Kind) (l : List Part) : List (Nat × Kind × Nat) := (List.range ks.length).reverse.filterMap (lg ks l)
/-- one log weighed -/
def weigh (ks : List Kind) (x : Nat) (l : List Part) (left : List Nat) (found : Best) (y : Nat × Kind × Nat) : Best :=
  if left.getD y.1 0 = 0 then found else
    let b := bestAt ks (x + y.2.1.long) (l.drop y.2.1.long) (left.set y.1 (left.getD y.1 0 - 1))
    better ⟨y.2.2 + b.value, b.many, (x, y.1) :: b.cutting⟩ found
theorem weigh_go (ks : List Kind) (x : Nat) (l : List Part) (left : List Nat) (s : Best) : ∀ (L : List Nat), (L.reverse.filterMap (lg ks l)).foldl (weigh ks x l left) s = (L.filterMap (cand ks x l left)).foldr better s
  | [] => rfl
  | k :: L => by
    have ih := weigh_go ks x l left s L
    rw [List.reverse_cons, List.filterMap_append, List.foldl_append, ih]
    cases hl : lg ks l k with
    | none =>
      have hc : cand ks x l left k = none := by
        unfold lg at hl
        unfold cand cand1
        cases hk : ks[k]? with
        | none => rfl
        | some z =>
          rw [hk] at hl
          dsimp only at hl
          have hw : worth z l = none := by
            cases hw : worth z l with
            | none => rfl
            | some v => rw [hw] at hl; cases hl
          show (if _ then _ else _) = _
          rw [hw]
          simp
      rw [List.filterMap_cons_none hc, List.filterMap_cons_none hl]
      rfl
    | some y =>
      rw [List.filterMap_cons_some hl]
      show weigh ks x l left _ y = _
      unfold lg at hl
      cases hk : ks[k]? with
      | none => rw [hk] at hl; cases hl
      | some z =>
        rw [hk] at hl
        dsimp only at hl
        cases hw : worth z l with
        | none => rw [hw] at hl; cases hl
        | some v =>
          rw [hw] at hl
          have e : y = (k, z, v) := (Option.some.inj hl).symm
          subst e
          unfold weigh
          by_cases h0 : left.getD k 0 = 0
          · have hc : cand ks x l left k = none := by
              unfold cand cand1
              rw [hk]
              show (if _ then _ else _) = _
              rw [if_pos h0]
            rw [List.filterMap_cons_none hc, if_pos h0]
          · have hc : cand ks x l left k = some ⟨v + (bestAt ks (x + z.long) (l.drop z.long) (left.set k (left.getD k 0 - 1))).value, (bestAt ks (x + z.long) (l.drop z.long) (left.set k (left.getD k 0 - 1))).many, (x, k) :: (bestAt ks (x + z.long) (l.drop z.long) (left.set k (left.getD k 0 - 1))).cutting⟩ := by
              unfold cand cand1
              rw [hk]
              show (if _ then _ else _) = _
              rw [if_neg h0, hw]
              rfl
            rw [List.filterMap_cons_some hc, if_neg h0]
            rfl
theorem bestAt_weigh (ks : List Kind) (x : Nat) (p : Part) (l : List Part) (left : List Nat) :
    bestAt ks x (p :: l) left = (logsOf ks (p :: l)).foldl (weigh ks x (p :: l) left) (bestAt ks (x + 1) l left) := by
  rw [bestAt_cons]
  unfold logsOf
  rw [weigh_go]
/-! ### the first log -/
/-- the kind of the log that begins at the place itself -/
def here (x : Nat) (c : Cutting) : Option Nat := match c with
  | [] => none
  | (a, k) :: _ => if a = x then some k else none
theorem better_cut (a b : Best) : (better a b).cutting = a.cutting ∨ (better a b).cutting = b.cutting := by
  unfold better
  by_cases h1 : a.value < b.value
  · rw [if_pos h1]; exact .inr rfl
  · rw [if_neg h1]
    by_cases h2 : b.value < a.value
    · rw [if_pos h2]; exact .inl rfl
    · rw [if_neg h2]; exact .inl rfl
theorem fold_cut (s : Best) : ∀ (L : List Best), (L.foldr better s).cutting = s.cutting ∨ ∃ c ∈ L, (L.foldr better s).cutting = c.cutting
  | [] => .inl rfl
  | b :: L => by
    cases better_cut b (L.foldr better s) with
    | inl h => exact .inr ⟨b, List.mem_cons_self, h⟩
    | inr h =>
      cases fold_cut s L with
      | inl h2 => exact .inl (h.trans h2)
      | inr h2 =>
        obtain ⟨c, hc, e⟩ := h2
        exact .inr ⟨c, List.mem_cons_of_mem _ hc, h.trans e⟩
theorem cand_some {ks : List Kind} {x : Nat} {l : List Part} {left : List Nat} {k : Nat} {c : Best} (h : cand ks x l left k = some c) :
    ∃ z v, ks[k]? = some z ∧ left.getD k 0 ≠ 0 ∧ worth z l = some v ∧ c = ⟨v + (bestAt ks (x + z.long) (l.drop z.long) (left.set k (left.getD k 0 - 1))).value, (bestAt ks (x + z.long) (l.drop z.long) (left.set k (left.getD k 0 - 1))).many, (x, k) :: (bestAt ks (x + z.long) (l.drop z.long) (left.set k (left.getD k 0 - 1))).cutting⟩ := by
  unfold cand cand1 at h
  cases hk : ks[k]? with
  | none => rw [hk] at h; cases h
  | some z =>
    rw [hk] at h
    dsimp only at h
    by_cases h0 : left.getD k 0 = 0
    · rw [if_pos h0] at h; cases h
    · rw [if_neg h0] at h
      cases hw : worth z l with
      | none => rw [hw] at h; cases h
      | some v =>
        rw [hw] at h
        exact ⟨z, v, rfl, h0, hw, (Option.some.inj h).symm⟩
/-- the best cutting from a place on begins there with a log, or is the one from the next place on -/
theorem bestAt_cut (ks : List Kind) (x : Nat) (p : Part) (l : List Part) (left : List Nat) :
    (bestAt ks x (p :: l) left).cutting = (bestAt ks (x + 1) l left).cutting ∨
    ∃ k z v, ks[k]? = some z ∧ left.getD k 0 ≠ 0 ∧ worth z (p :: l) = some v ∧
      (bestAt ks x (p :: l) left).cutting = (x, k) :: (bestAt ks (x + z.long) ((p :: l).drop z.long) (left.set k (left.getD k 0 - 1))).cutting := by
  rw [bestAt_cons]
  cases fold_cut (bestAt ks (x + 1) l left) ((List.range ks.length).filterMap (cand ks x (p :: l) left)) with
  | inl h => exact .inl h
  | inr h =>
    obtain ⟨c, hc, e⟩ := h
    obtain ⟨k, _, hk⟩ := List.mem_filterMap.mp hc
    obtain ⟨z, v, h1, h2, h3, rfl⟩ := cand_some hk
    exact .inr ⟨k, z, v, h1, h2, h3, e⟩
/-- its logs begin no lower, and have no more parts than there are -/
theorem bestAt_here (ks : List Kind) : ∀ (n : Nat) (l : List Part) (x y : Nat) (left : List Nat), l.length ≤ n → y < x → here y (bestAt ks x l left).cutting = none
  | _, [], x, y, left, _, h => rfl
  | 0, _ :: _, _, _, _, h, _ => by simp at h
  | n + 1, p :: l, x, y, left, hn, h => by
    have hn' : l.length ≤ n := by simpa using hn
    cases bestAt_cut ks x p l left with
    | inl e => rw [e]; exact bestAt_here ks n l (x + 1) y left hn' (by omega)
    | inr e =>
      obtain ⟨k, z, v, _, _, _, e⟩ := e
      rw [e]
      show (if x = y then some k else none) = none
      rw [if_neg (by omega)]
def lenOf (ks : List Kind) (k : Nat) : Nat := ((ks[k]?).map fun z => z.long).getD 0
def cutLen (ks : List Kind) (c : Cutting) : Nat := (c.map fun x => lenOf ks x.2).sum
theorem bestAt_len (ks : List Kind) : ∀ (n : Nat) (l : List Part) (x : Nat) (left : List Nat), l.length ≤ n → cutLen ks (bestAt ks x l left).cutting ≤ l.length
  | _, [], x, left, _ => Nat.le_refl _
  | 0, _ :: _, _, _, h => by simp at h
  | n + 1, p :: l, x, left, hn => by
    have hn' : l.length ≤ n := by simpa using hn
    cases bestAt_cut ks x p l left with
    | inl e =>
      rw [e]
      exact Nat.le_trans (bestAt_len ks n l (x + 1) left hn') (by simp)
    | inr e =>
      obtain ⟨k, z, v, hk, _, hw, e⟩ := e
      obtain ⟨h1, h2⟩ := worth_some hw
      rw [e]
      have ih := bestAt_len ks n ((p :: l).drop z.long) (x + z.long) (left.set k (left.getD k 0 - 1)) (by rw [List.length_drop, List.length_cons]; omega)
      rw [List.length_drop] at ih
      show (lenOf ks k + cutLen ks _) ≤ _
      have : lenOf ks k = z.long := by unfold lenOf; rw [hk]; rfl
      rw [this]
      omega
theorem foldl_add : ∀ (L : List Nat) (a : Nat), L.foldl (fun a b => a + b) a = a + L.sum
  | [], a => by simp
  | b :: L, a => by rw [List.foldl_cons, foldl_add L, List.sum_cons, Nat.add_assoc]
theorem cut_eq (w : Wood) (c : Cutting) : w.cut c = cutLen w.kinds c := by
  unfold Wood.cut cutLen lenOf
  rw [foldl_add, Nat.zero_add]
/-- where the first log is known -/
theorem here_none {ks : List Kind} {x : Nat} {p : Part} {l : List Part} {left : List Nat} (h : here x (bestAt ks x (p :: l) left).cutting = none) : (bestAt ks x (p :: l) left).cutting = (bestAt ks (x + 1) l left).cutting := by
  cases bestAt_cut ks x p l left with
  | inl e => exact e
  | inr e =>
    obtain ⟨k, z, v, _, _, _, e⟩ := e
    rw [e] at h
    have : (if x = x then some k else none) = none := h
    rw [if_pos rfl] at this
    cases this
theorem here_some {ks : List Kind} {x : Nat} {p : Part} {l : List Part} {left : List Nat} {k : Nat} (h : here x (bestAt ks x (p :: l) left).cutting = some k) :
    ∃ z v, ks[k]? = some z ∧ left.getD k 0 ≠ 0 ∧ worth z (p :: l) = some v ∧
      (bestAt ks x (p :: l) left).cutting = (x, k) :: (bestAt ks (x + z.long) ((p :: l).drop z.long) (left.set k (left.getD k 0 - 1))).cutting := by
  cases bestAt_cut ks x p l left with
  | inl e =>
    rw [e, bestAt_here ks l.length l (x + 1) x left (Nat.le_refl _) (by omega)] at h
    cases h
  | inr e =>
    obtain ⟨k', z, v, h1, h2, h3, e⟩ := e
    rw [e] at h
    have : (if x = x then some k' else none) = some k := h
    rw [if_pos rfl] at this
    cases this
    exact ⟨z, v, h1, h2, h3, e⟩
/-! ### the stem -/
def stemGo : Nat → List Part → Bool
  | _, [] => true
  | t, p :: l => decide (1 ≤ p.thick) && (decide (p.thick ≤ t) && (decide (p.grade ≤ 9) && stemGo p.thick l))
theorem stemGo_iff : ∀ (l : List Part) (t : Nat), t ≤ 100 → (stemGo t l = true ↔ (∀ p ∈ l, 1 ≤ p.thick ∧ p.thick ≤ 100 ∧ p.grade ≤ 9) ∧ (∀ p, l.head? = some p → p.thick ≤ t) ∧ thinner l = true)
  | [], t, _ => by simp [stemGo, thinner]
  | [p], t, ht => by
    simp only [stemGo, Bool.and_eq_true, decide_eq_true_eq, thinner, and_true, List.mem_singleton, forall_eq, List.head?_cons, Option.some.injEq, forall_eq']
    omega
  | p :: q :: l, t, ht => by
    rw [stemGo]
    simp only [Bool.and_eq_true, decide_eq_true_eq, thinner]
    constructor
    · rintro ⟨h1, h2, h3, h4⟩
      obtain ⟨a, b, c⟩ := (stemGo_iff (q :: l) p.thick (by omega)).mp h4
      refine ⟨?_, ?_, b q rfl, c⟩
      · intro r hr
        cases List.mem_cons.mp hr with
        | inl e => subst e; omega
        | inr e => exact a r e
      · intro r hr
        cases Option.some.inj hr
        exact h2
    · rintro ⟨a, b, c, d⟩
      have hp := a p List.mem_cons_self
      refine ⟨hp.1, b p rfl, hp.2.2, (stemGo_iff (q :: l) p.thick hp.2.1).mpr ⟨fun r hr => a r (List.mem_cons_of_mem _ hr), ?_, d⟩⟩
      intro r hr
      cases Option.some.inj hr
      exact c
theorem stem_ok (l : List Part) : stemGo 100 l = true ↔ ¬ ((l.all fun p => decide (1 ≤ p.thick) && (decide (p.thick ≤ THICK) && decide (p.grade ≤ GRADE))) = false ∨ thinner l = false) := by
  rw [stemGo_iff l 100 (Nat.le_refl _), not_or, Bool.not_eq_false, Bool.not_eq_false, List.all_eq_true]
  have e : ∀ p : Part, (decide (1 ≤ p.thick) && (decide (p.thick ≤ THICK) && decide (p.grade ≤ GRADE))) = true ↔ 1 ≤ p.thick ∧ p.thick ≤ 100 ∧ p.grade ≤ 9 := fun p => by
    rw [Bool.and_eq_true, Bool.and_eq_true, decide_eq_true_iff, decide_eq_true_iff, decide_eq_true_iff]
    exact Iff.rfl
  constructor
  · rintro ⟨a, b, c⟩
    exact ⟨fun r hr => (e r).mpr (a r hr), c⟩
  · rintro ⟨a, c⟩
    refine ⟨fun r hr => (e r).mp (a r hr), ?_, c⟩
    intro r hr
    cases l with
    | nil => cases hr
    | cons p l =>
      cases Option.some.inj hr
      exact ((e _).mp (a _ List.mem_cons_self)).2.1
end LC
/-! What each call does, one equation a way. -/
namespace LC
open Sw95
theorem step_order_none {w : Wood} {k n : Nat} (h : w.kinds[k]? = none) : step w (.order k n) = (w, ok (-2)) := by
  unfold step
  dsimp only
  rw [h]
theorem step_order_big {w : Wood} {k n : Nat} {z : Kind} (h : w.kinds[k]? = some z) (h4 : 4 < n) : step w (.order k n) = (w, ok (-1)) := by
  unfold step
  dsimp only
  rw [h]
  dsimp only
  rw [if_pos (show MOST < n from h4)]
theorem step_order {w : Wood} {k n : Nat} {z : Kind} (h : w.kinds[k]? = some z) (h4 : n ≤ 4) : step w (.order k n) = ({ w with kinds := w.kinds.set k { z with most := n } }, ok (z.most : Nat)) := by
  unfold step
  dsimp only
  rw [h]
  dsimp only
  rw [if_neg (show ¬ MOST < n from Nat.not_lt.mpr h4)]
theorem step_kind_bad {w : Wood} {k : Kind} (h : kindOk k = false) : step w (.kind k) = (w, ok (-1)) := by
  unfold step
  dsimp only
  rw [if_pos h]
theorem step_kind_full {w : Wood} {k : Kind} (h : kindOk k = true) (h3 : w.kinds.length = 3) : step w (.kind k) = (w, ok (-5)) := by
  unfold step
  dsimp only
  rw [if_neg (by rw [h]; exact Bool.noConfusion), if_pos (show KINDS ≤ w.kinds.length by show 3 ≤ _; omega)]
theorem step_kind {w : Wood} {k : Kind} (h : kindOk k = true) (h3 : w.kinds.length < 3) : step w (.kind k) = ({ w with kinds := w.kinds ++ [k] }, ok (w.kinds.length : Nat)) := by
  unfold step
  dsimp only
  rw [if_neg (by rw [h]; exact Bool.noConfusion), if_neg (show ¬ KINDS ≤ w.kinds.length by show ¬ 3 ≤ _; omega)]
def stemOk (ps : List Part) : Bool := decide (ps.length ≤ 40) && stemGo 100 ps
theorem step_stem_bad {w : Wood} {l : List Part} (h : stemOk l = false) : step w (.stem l) = (w, ok (-1)) := by
  unfold step
  dsimp only
  rw [if_pos]
  unfold stemOk at h
  rw [Bool.and_eq_false_iff] at h
  cases h with
  | inl h => exact .inl (show 40 < l.length by have := of_decide_eq_false h; omega)
  | inr h =>
    refine .inr (Classical.byContradiction fun q => ?_)
    rw [(stem_ok l).mpr q] at h
    cases h
theorem step_stem {w : Wood} {l : List Part} (h : stemOk l = true) : step w (.stem l) = ({ w with stem := l }, ok (l.length : Nat)) := by
  unfold step
  dsimp only
  rw [if_neg]
  unfold stemOk at h
  rw [Bool.and_eq_true] at h
  rintro (q | q)
  · have := of_decide_eq_true h.1
    have : 40 < l.length := q
    omega
  · exact (stem_ok l).mp h.2 q
end LC
/-! The calls read from one flat list, and the answers as one. -/
namespace LC
open Sw95
def flatP : List Part → List Nat
  | [] => []
  | p :: l => p.thick :: p.grade :: flatP l
def flatC : List (Nat × Nat) → List Nat
  | [] => []
  | y :: l => y.1 :: y.2 :: flatC l
def cast (l : List Nat) : List Int := l.map fun (n : Nat) => (n : Int)
/-- the flat list l begins with the call q; t is what stands behind it -/
inductive CallIs : List Int → Call → List Int → Prop
  | stem (ps : List Part) (t : List Int) : ps.length ≤ 60 → CallIs (0 :: ((2 * ps.length : Nat) : Int) :: (cast (flatP ps) ++ t)) (.stem ps) t
  | kind (a b d e g : Nat) (t : List Int) : CallIs (1 :: (a : Int) :: (b : Int) :: (d : Int) :: (e : Int) :: (g : Int) :: t) (.kind ⟨a, b, d, e, g⟩) t
  | order (k n : Nat) (t : List Int) : CallIs (2 :: (k : Int) :: (n : Int) :: t) (.order k n) t
  | best (t : List Int) : CallIs (3 :: t) .best t
  | check (cs : List (Nat × Nat)) (t : List Int) : cs.length ≤ 60 → CallIs (4 :: ((2 * cs.length : Nat) : Int) :: (cast (flatC cs) ++ t)) (.check cs) t
  | more (k : Nat) (t : List Int) : CallIs (5 :: (k : Int) :: t) (.more k) t
  | grades (t : List Int) : CallIs (6 :: t) .grades t
inductive Dec : List Int → List Call → Prop
  | nil : Dec [] []
  | cons {l t : List Int} {q : Call} {qs : List Call} : CallIs l q t → Dec t qs → Dec l (q :: qs)
/-- what is answered to some calls from a state on -/
def runOut : Wood → List Call → List Int
  | _, [] => []
  | w, q :: qs => ((Sw95Neutral.out (step w q).2).length : Int) :: (Sw95Neutral.out (step w q).2 ++ runOut (step w q).1 qs)
theorem toNat_cast {l : List Int} (h : l.all Sw95Neutral.nat = true) : cast (l.map Int.toNat) = l := by
  induction l with
  | nil => rfl
  | cons a l ih =>
    rw [List.all_cons, Bool.and_eq_true] at h
    show ((a.toNat : Nat) : Int) :: cast (l.map Int.toNat) = a :: l
    rw [ih h.2]
    have : 0 ≤ a := by
      have q := h.1
      unfold Sw95Neutral.nat at q
      rw [Bool.and_eq_true] at q
      exact of_decide_eq_true q.1
    rw [Int.toNat_of_nonneg this]
theorem pairs_flat : ∀ {n : Nat} {l : List Nat} {ps : List (Nat × Nat)}, Sw95Neutral.pairsIn n l = some ps → l = flatC ps ∧ ps.length = n
  | 0, [], ps, h => by
    have e : [] = ps := Option.some.inj h
    subst e
    exact ⟨rfl, rfl⟩
  | 0, _ :: _, ps, h => by cases h
  | n + 1, [], ps, h => by cases h
  | n + 1, [_], ps, h => by cases h
  | n + 1, a :: b :: l, ps, h => by
    have h' : (Sw95Neutral.pairsIn n l).map (fun r => (a, b) :: r) = some ps := h
    cases e : Sw95Neutral.pairsIn n l with
    | none => rw [e] at h'; cases h'
    | some r =>
      rw [e] at h'
      have e2 : (a, b) :: r = ps := Option.some.inj h'
      subst e2
      obtain ⟨h1, h2⟩ := pairs_flat e
      exact ⟨by rw [h1]; rfl, by rw [List.length_cons, h2]⟩
theorem flatC_len : ∀ cs : List (Nat × Nat), (flatC cs).length = 2 * cs.length
  | [] => rfl
  | y :: l => by
    show (flatC l).length + 1 + 1 = 2 * (l.length + 1)
    rw [flatC_len l]
    omega
theorem flatC_parts : ∀ cs : List (Nat × Nat), flatC cs = flatP (cs.map fun x => (⟨x.1, x.2⟩ : Part))
  | [] => rfl
  | y :: l => by
    show y.1 :: y.2 :: flatC l = y.1 :: y.2 :: flatP (l.map _)
    rw [flatC_parts l]
theorem callOf_some {l : List Int} {q : Call} (h : Sw95Neutral.callOf l = some q) : l.all Sw95Neutral.nat = true ∧ Sw95Neutral.callIn (l.map Int.toNat) = some q := by
  unfold Sw95Neutral.callOf at h
  cases e : l.all Sw95Neutral.nat with
  | false => rw [if_pos e] at h; cases h
  | true => rw [if_neg (by rw [e]; exact Bool.noConfusion)] at h; exact ⟨rfl, h⟩
theorem row_some {l x t : List Int} (h : PyFlat.row l = some (x, t)) : l = (x.length : Int) :: (x ++ t) := by
  cases l with
  | nil => cases h
  | cons n r =>
    have h' : (if 0 ≤ n ∧ n.toNat ≤ r.length then some (r.take n.toNat, r.drop n.toNat) else none) = some (x, t) := h
    by_cases c : 0 ≤ n ∧ n.toNat ≤ r.length
    · rw [if_pos c] at h'
      cases h'
      rw [List.take_append_drop, List.length_take, show min n.toNat r.length = n.toNat by omega, Int.toNat_of_nonneg c.1]
    · rw [if_neg c] at h'
      cases h'
/-- one call, read from the front -/
theorem call_is {l t : List Int} {c : List (List Int)} {q : Call} (h : PyFlat.call PySw95.shape l = some (c, t)) (hq : Sw95Neutral.callOf ((PySw95.whole c).headD []) = some q) : CallIs l q t := by
  cases l with
  | nil => cases h
  | cons p r =>
    have h' : (match PySw95.shape p with
      | none => none
      | some (n, k) => if r.length < n then none else match PyFlat.rows k (r.drop n) with
        | none => none
        | some (xs, t) => some ((p :: r.take n) :: xs, t)) = some (c, t) := h
    by_cases p0 : p = 0
    · subst p0
      have h2 : (match PyFlat.rows 1 (r.drop 0) with | none => none | some (xs, t) => some ((0 :: r.take 0) :: xs, t)) = some (c, t) := h'
      rw [List.drop_zero, List.take_zero] at h2
      have h3 : (match (match PyFlat.row r with | none => none | some (x, s) => some ([x], s)) with | none => none | some (xs, t) => some ([(0 : Int)] :: xs, t)) = some (c, t) := h2
      cases er : PyFlat.row r with
      | none => rw [er] at h3; cases h3
      | some xs =>
        obtain ⟨x, s⟩ := xs
        rw [er] at h3
        cases h3
        rw [row_some er]
        have hq2 : Sw95Neutral.callOf (0 :: ((x.length : Int) / 2) :: x) = some q := hq
        obtain ⟨ha, hc⟩ := callOf_some hq2
        have ha2 : x.all Sw95Neutral.nat = true := by
          rw [List.all_cons, List.all_cons, Bool.and_eq_true, Bool.and_eq_true] at ha
          exact ha.2.2
        have hc2 : (if ((x.length : Int) / 2).toNat ≤ 60 then (Sw95Neutral.pairsIn ((x.length : Int) / 2).toNat (x.map Int.toNat)).map fun p => Call.stem (p.map fun x => ⟨x.1, x.2⟩) else none) = some q := hc
        by_cases c60 : ((x.length : Int) / 2).toNat ≤ 60
        · rw [if_pos c60] at hc2
          cases ep : Sw95Neutral.pairsIn ((x.length : Int) / 2).toNat (x.map Int.toNat) with
          | none => rw [ep] at hc2; cases hc2
          | some cs =>
            rw [ep] at hc2
            have e2 : Call.stem (cs.map fun x => ⟨x.1, x.2⟩) = q := Option.some.inj hc2
            subst e2
            obtain ⟨e3, e4⟩ := pairs_flat ep
            have e5 : x = cast (flatP (cs.map fun x => (⟨x.1, x.2⟩ : Part))) := by
              rw [← flatC_parts, ← e3, toNat_cast ha2]
            have e6 : x.length = 2 * (cs.map fun x => (⟨x.1, x.2⟩ : Part)).length := by
              have := congrArg List.length e3
              rw [List.length_map, flatC_len] at this
              rw [List.length_map]
              exact this
            rw [e6]
            conv => arg 1; rw [e5]
            exact .stem _ _ (by rw [List.length_map, e4]; exact c60)
        · rw [if_neg c60] at hc2
          cases hc2
    · by_cases p1 : p = 1
      · subst p1
        have h2 : (if r.length < 5 then none else some ((1 :: r.take 5) :: [], r.drop 5)) = some (c, t) := h'
        by_cases c5 : r.length < 5
        · rw [if_pos c5] at h2; cases h2
        · rw [if_neg c5] at h2
          match r, c5 with
          | a :: b :: d :: e :: g :: r, _ =>
            cases h2
            have hq2 : Sw95Neutral.callOf [1, a, b, d, e, g] = some q := hq
            obtain ⟨ha, hc⟩ := callOf_some hq2
            have hq3 : some (Call.kind ⟨a.toNat, b.toNat, d.toNat, e.toNat, g.toNat⟩) = some q := hc
            cases hq3
            have e5 := toNat_cast ha
            have e6 : [(1 : Int), (a.toNat : Int), (b.toNat : Int), (d.toNat : Int), (e.toNat : Int), (g.toNat : Int)] = [1, a, b, d, e, g] := e5
            simp only [List.cons.injEq, and_true, true_and] at e6
            obtain ⟨f1, f2, f3, f4, f5⟩ := e6
            have := CallIs.kind a.toNat b.toNat d.toNat e.toNat g.toNat r
            rw [f1, f2, f3, f4, f5] at this
            exact this
          | [], c5 => exact absurd (by simp) c5
          | [_], c5 => exact absurd (by simp) c5
          | [_, _], c5 => exact absurd (by simp) c5
          | [_, _, _], c5 => exact absurd (by simp) c5
          | [_, _, _, _], c5 => exact absurd (by simp) c5
      · by_cases p2 : p = 2
        · subst p2
          have h2 : (if r.length < 2 then none else some ((2 :: r.take 2) :: [], r.drop 2)) = some (c, t) := h'
          by_cases c5 : r.length < 2
          · rw [if_pos c5] at h2; cases h2
          · rw [if_neg c5] at h2
            match r, c5 with
            | a :: b :: r, _ =>
              cases h2
              have hq2 : Sw95Neutral.callOf [2, a, b] = some q := hq
              obtain ⟨ha, hc⟩ := callOf_some hq2
              have hq3 : some (Call.order a.toNat b.toNat) = some q := hc
              cases hq3
              have e6 : [(2 : Int), (a.toNat : Int), (b.toNat : Int)] = [2, a, b] := toNat_cast ha
              simp only [List.cons.injEq, and_true, true_and] at e6
              obtain ⟨f1, f2⟩ := e6
              have := CallIs.order a.toNat b.toNat r
              rw [f1, f2] at this
              exact this
            | [], c5 => exact absurd (by simp) c5
            | [_], c5 => exact absurd (by simp) c5
        · by_cases p3 : p = 3
          · subst p3
            have h2 : some ((3 :: r.take 0) :: [], r.drop 0) = some (c, t) := h'
            cases h2
            have hq2 : some Call.best = some q := hq
            cases hq2
            exact .best r
          · by_cases p4 : p = 4
            · subst p4
              have h2 : (match PyFlat.rows 1 (r.drop 0) with | none => none | some (xs, t) => some ((4 :: r.take 0) :: xs, t)) = some (c, t) := h'
              rw [List.drop_zero, List.take_zero] at h2
              have h3 : (match (match PyFlat.row r with | none => none | some (x, s) => some ([x], s)) with | none => none | some (xs, t) => some ([(4 : Int)] :: xs, t)) = some (c, t) := h2
              cases er : PyFlat.row r with
              | none => rw [er] at h3; cases h3
              | some xs =>
                obtain ⟨x, s⟩ := xs
                rw [er] at h3
                cases h3
                rw [row_some er]
                have hq2 : Sw95Neutral.callOf (4 :: ((x.length : Int) / 2) :: x) = some q := hq
                obtain ⟨ha, hc⟩ := callOf_some hq2
                have ha2 : x.all Sw95Neutral.nat = true := by
                  rw [List.all_cons, List.all_cons, Bool.and_eq_true, Bool.and_eq_true] at ha
                  exact ha.2.2
                have hc2 : (if ((x.length : Int) / 2).toNat ≤ 60 then (Sw95Neutral.pairsIn ((x.length : Int) / 2).toNat (x.map Int.toNat)).map Call.check else none) = some q := hc
                by_cases c60 : ((x.length : Int) / 2).toNat ≤ 60
                · rw [if_pos c60] at hc2
                  cases ep : Sw95Neutral.pairsIn ((x.length : Int) / 2).toNat (x.map Int.toNat) with
                  | none => rw [ep] at hc2; cases hc2
                  | some cs =>
                    rw [ep] at hc2
                    have e2 : Call.check cs = q := Option.some.inj hc2
                    subst e2
                    obtain ⟨e3, e4⟩ := pairs_flat ep
                    have e5 : x = cast (flatC cs) := by
                      rw [← e3, toNat_cast ha2]
                    have e6 : x.length = 2 * cs.length := by
                      have := congrArg List.length e3
                      rw [List.length_map, flatC_len] at this
                      exact this
                    rw [e6]
                    conv => arg 1; rw [e5]
                    exact .check _ _ (by rw [e4]; exact c60)
                · rw [if_neg c60] at hc2
                  cases hc2
            · by_cases p5 : p = 5
              · subst p5
                have h2 : (if r.length < 1 then none else some ((5 :: r.take 1) :: [], r.drop 1)) = some (c, t) := h'
                by_cases c5 : r.length < 1
                · rw [if_pos c5] at h2; cases h2
                · rw [if_neg c5] at h2
                  match r, c5 with
                  | a :: r, _ =>
                    cases h2
                    have hq2 : Sw95Neutral.callOf [5, a] = some q := hq
                    obtain ⟨ha, hc⟩ := callOf_some hq2
                    have hq3 : some (Call.more a.toNat) = some q := hc
                    cases hq3
                    have e6 : [(5 : Int), (a.toNat : Int)] = [5, a] := toNat_cast ha
                    simp only [List.cons.injEq, and_true, true_and] at e6
                    have := CallIs.more a.toNat r
                    rw [e6] at this
                    exact this
                  | [], c5 => exact absurd (by simp) c5
              · by_cases p6 : p = 6
                · subst p6
                  have h2 : some ((6 :: r.take 0) :: [], r.drop 0) = some (c, t) := h'
                  cases h2
                  have hq2 : some Call.grades = some q := hq
                  cases hq2
                  exact .grades r
                · exfalso
                  have e : PySw95.shape p = none := by
                    unfold PySw95.shape
                    rw [if_neg p0, if_neg p1, if_neg p2, if_neg p3, if_neg p4, if_neg p5, if_neg p6]
                  rw [e] at h'
                  cases h'
theorem calls_dec : ∀ (f : Nat) (l : List Int) (cs : List (List (List Int))), PyFlat.calls PySw95.shape f l = some cs → (∀ c ∈ cs, (Sw95Neutral.callOf ((PySw95.whole c).headD [])).isSome = true) →
    ∃ qs, Dec l qs ∧ ∀ w, PyFlat.told (PyFlat.played (fun s c => Sw95Neutral.step s (c.headD [])) w (cs.map PySw95.whole)) = runOut w qs
  | f, [], cs, h, _ => by
    have e : cs = [] := by
      cases f <;> exact (Option.some.inj h).symm
    subst e
    exact ⟨[], .nil, fun _ => rfl⟩
  | 0, _ :: _, cs, h, _ => by cases h
  | f + 1, p :: r, cs, h, ha => by
    have h' : (match PyFlat.call PySw95.shape (p :: r) with
      | none => none
      | some (c, t) => match PyFlat.calls PySw95.shape f t with
        | none => none
        | some cs => some (c :: cs)) = some cs := h
    cases e1 : PyFlat.call PySw95.shape (p :: r) with
    | none => rw [e1] at h'; cases h'
    | some ct =>
      obtain ⟨c, t⟩ := ct
      rw [e1] at h'
      dsimp only at h'
      cases e2 : PyFlat.calls PySw95.shape f t with
      | none => rw [e2] at h'; cases h'
      | some cs' =>
        rw [e2] at h'
        have e3 : c :: cs' = cs := Option.some.inj h'
        subst e3
        obtain ⟨qs, d, eq⟩ := calls_dec f t cs' e2 fun x hx => ha x (List.mem_cons_of_mem _ hx)
        obtain ⟨q, hq⟩ := Option.isSome_iff_exists.mp (ha c List.mem_cons_self)
        refine ⟨q :: qs, .cons (call_is e1 hq) d, fun w => ?_⟩
        have es : Sw95Neutral.step w ((PySw95.whole c).headD []) = ((step w q).1, Sw95Neutral.out (step w q).2) := by
          unfold Sw95Neutral.step
          rw [hq]
        show (((Sw95Neutral.step w ((PySw95.whole c).headD [])).2.length : Int) :: (Sw95Neutral.step w ((PySw95.whole c).headD [])).2) ++ PyFlat.told (PyFlat.played (fun s c => Sw95Neutral.step s (c.headD [])) (Sw95Neutral.step w ((PySw95.whole c).headD [])).1 (cs'.map PySw95.whole)) = _
        rw [eq, es]
        rfl
theorem asked_dec {l : List Int} (h : PySw95.answers_asked l = true) : ∃ qs, Dec l qs ∧ PySw95.answers l = runOut init qs ∧ (runOut init qs).length ≤ 10000000 := by
  unfold PySw95.answers_asked at h
  cases e : PyFlat.calls PySw95.shape l.length l with
  | none => rw [e] at h; cases h
  | some raw =>
    rw [e] at h
    dsimp only at h
    rw [Bool.and_eq_true, Bool.and_eq_true, Bool.and_eq_true, Bool.and_eq_true] at h
    obtain ⟨⟨⟨⟨_, _⟩, _⟩, hA⟩, hS⟩ := h
    have hall : ∀ c ∈ raw, (Sw95Neutral.callOf ((PySw95.whole c).headD [])).isSome = true := fun c hc => by
      unfold Sw95Neutral.asked at hA
      rw [Bool.and_eq_true] at hA
      have := List.all_eq_true.mp hA.1 ((PySw95.whole c).headD []) (by
        rw [List.map_map]
        exact List.mem_map.mpr ⟨c, hc, rfl⟩)
      exact this
    obtain ⟨qs, d, eq⟩ := calls_dec _ l raw e hall
    have ea : PySw95.answers l = runOut init qs := by
      unfold PySw95.answers PySw95.calls
      rw [e]
      exact eq init
    refine ⟨qs, d, ea, ?_⟩
    rw [← ea]
    exact of_decide_eq_true hS
end LC
/-! One more order: the recursion does not look at what is ordered. -/
namespace LC
open Sw95
def strip (z : Kind) : Kind := { z with most := 0 }
theorem strip_long {z y : Kind} (h : strip z = strip y) : z.long = y.long := by
  have := congrArg Kind.long h
  exact this
theorem strip_worth {z y : Kind} (h : strip z = strip y) (l : List Part) : worth z l = worth y l := by
  have e : ∀ z : Kind, worth z l = worth (strip z) l := fun _ => rfl
  rw [e z, e y, h]
theorem cand1_most {ks ks' : List Kind} (h : ks'.map strip = ks.map strip) (x : Nat) (l : List Part) (left : List Nat) (r : Nat → List Nat → Best) (k : Nat) : cand1 ks' x l left r k = cand1 ks x l left r k := by
  have hk : (ks'[k]?).map strip = (ks[k]?).map strip := by
    have := congrArg (fun m : List Kind => m[k]?) h
    simpa [List.getElem?_map] using this
  unfold cand1
  cases e1 : ks'[k]? with
  | none =>
    rw [e1] at hk
    cases e2 : ks[k]? with
    | none => rfl
    | some y => rw [e2] at hk; cases hk
  | some z =>
    rw [e1] at hk
    cases e2 : ks[k]? with
    | none => rw [e2] at hk; cases hk
    | some y =>
      rw [e2] at hk
      have e := Option.some.inj hk
      dsimp only
      rw [strip_worth e, strip_long e]
theorem rowsF_most {ks ks' : List Kind} (h : ks'.map strip = ks.map strip) : ∀ (l : List Part) (x : Nat), rowsF ks' x l = rowsF ks x l
  | [], _ => rfl
  | p :: l, x => by
    have ih := rowsF_most h l (x + 1)
    have hl : ks'.length = ks.length := by
      have := congrArg List.length h
      simpa using this
    unfold rowsF
    dsimp only
    rw [ih, hl]
    congr 1
    funext left
    congr 1
    exact congrArg (fun f => List.filterMap f _) (funext fun k => cand1_most h x (p :: l) left _ k)
theorem bestAt_most {ks ks' : List Kind} (h : ks'.map strip = ks.map strip) (x : Nat) (l : List Part) : bestAt ks' x l = bestAt ks x l := by
  unfold bestAt
  rw [rowsF_most h]
theorem set_strip {ks : List Kind} {k n : Nat} {z : Kind} (h : ks[k]? = some z) : (ks.set k { z with most := n }).map strip = ks.map strip := by
  rw [List.map_set]
  have e : strip { z with most := n } = strip z := rfl
  rw [e]
  have hk : k < ks.length := (List.getElem?_eq_some_iff.mp h).1
  have e2 : (ks.map strip)[k]? = some (strip z) := by rw [List.getElem?_map, h]; rfl
  refine List.ext_getElem? fun i => ?_
  by_cases c : k = i
  · subst c
    rw [List.getElem?_set_self (by rw [List.length_map]; exact hk), e2]
  · rw [List.getElem?_set_ne c]
/-- what one more of a kind makes of the best -/
theorem step_more {w : Wood} {k : Nat} {z : Kind} (h : w.kinds[k]? = some z) :
    step w (.more k) = (w, ok (((bestAt w.kinds 0 w.stem ((w.kinds.map fun y => y.most).set k (z.most + 1))).value : Int) - ((bestAt w.kinds 0 w.stem (w.kinds.map fun y => y.most)).value : Int))) := by
  unfold step
  dsimp only
  rw [h]
  dsimp only
  rw [best_eq, best_eq]
  dsimp only
  rw [bestAt_most (set_strip h), List.map_set]
theorem step_more_none {w : Wood} {k : Nat} (h : w.kinds[k]? = none) : step w (.more k) = (w, ok (-2)) := by
  unfold step
  dsimp only
  rw [h]
end LC
/-! A cutting held against the stock log by log, as the program does it. -/
namespace LC
open Sw95
/-- from a place on, out of a stock -/
def chk (w : Wood) : Nat → List Nat → Cutting → Option Nat
  | _, _, [] => some 0
  | x, left, (a, k) :: l => match w.kinds[k]? with
    | none => none
    | some z => if left.getD k 0 = 0 ∨ a < x then none else (worth z (w.stem.drop a)).bind fun v => (chk w (a + z.long) (left.set k (left.getD k 0 - 1)) l).map fun n => v + n
def cnt (c : Cutting) (k : Nat) : Nat := (c.filter fun x => x.2 == k).length
def fits (m : Nat) (left : List Nat) (c : Cutting) : Prop := ∀ k, k < m → cnt c k ≤ left.getD k 0
theorem cnt_cons (a k j : Nat) (l : Cutting) : cnt ((a, k) :: l) j = (if k = j then 1 else 0) + cnt l j := by
  unfold cnt
  rw [List.filter_cons]
  by_cases h : k = j
  · rw [if_pos (by exact beq_iff_eq.mpr h), if_pos h, List.length_cons]
    omega
  · rw [if_neg (by intro q; exact h (beq_iff_eq.mp q)), if_neg h]
    omega
theorem getD_set (l : List Nat) (k j n : Nat) (h : k < l.length) : (l.set k n).getD j 0 = if k = j then n else l.getD j 0 := by
  rw [List.getD_eq_getElem?_getD, List.getD_eq_getElem?_getD]
  by_cases e : k = j
  · subst e
    rw [List.getElem?_set_self h, if_pos rfl]
    rfl
  · rw [List.getElem?_set_ne e, if_neg e]
theorem chk_eq (w : Wood) : ∀ (c : Cutting) (x : Nat) (left : List Nat), left.length = w.kinds.length → (fits w.kinds.length left c → chk w x left c = valueFrom w x c) ∧ (¬ fits w.kinds.length left c → chk w x left c = none)
  | [], x, left, hl => ⟨fun _ => rfl, fun h => absurd (fun k _ => Nat.zero_le _) h⟩
  | (a, k) :: l, x, left, hl => by
    unfold chk valueFrom
    cases hz : w.kinds[k]? with
    | none =>
      refine ⟨fun _ => ?_, fun _ => rfl⟩
      by_cases h : a < x
      · rw [if_pos h]
      · rw [if_neg h]
    | some z =>
      dsimp only
      have hk : k < w.kinds.length := (List.getElem?_eq_some_iff.mp hz).1
      by_cases h0 : left.getD k 0 = 0
      · rw [if_pos (.inl h0)]
        refine ⟨fun q => ?_, fun _ => rfl⟩
        have := q k hk
        rw [cnt_cons, if_pos rfl] at this
        omega
      · obtain ⟨ih1, ih2⟩ := chk_eq w l (a + z.long) (left.set k (left.getD k 0 - 1)) (by rw [List.length_set]; exact hl)
        have hf : fits w.kinds.length left ((a, k) :: l) ↔ fits w.kinds.length (left.set k (left.getD k 0 - 1)) l := by
          have e : ∀ j, (left.set k (left.getD k 0 - 1)).getD j 0 = if k = j then left.getD k 0 - 1 else left.getD j 0 := fun j => getD_set left k j _ (by rw [hl]; exact hk)
          constructor
          · intro q j hj
            have := q j hj
            rw [cnt_cons] at this
            rw [e]
            by_cases c : k = j
            · subst c
              rw [if_pos rfl] at this ⊢
              omega
            · rw [if_neg c] at this ⊢
              omega
          · intro q j hj
            have := q j hj
            rw [e] at this
            rw [cnt_cons]
            by_cases c : k = j
            · subst c
              rw [if_pos rfl] at this ⊢
              omega
            · rw [if_neg c] at this ⊢
              omega
        by_cases h : a < x
        · rw [if_pos (.inr h), if_pos h]
          exact ⟨fun _ => rfl, fun _ => rfl⟩
        · rw [if_neg (by rintro (q | q); exact h0 q; exact h q), if_neg h]
          refine ⟨fun q => ?_, fun q => ?_⟩
          · rw [ih1 (hf.mp q)]
          · rw [ih2 (fun r => q (hf.mpr r))]
            cases worth z (w.stem.drop a) <;> rfl
theorem value_chk (w : Wood) (c : Cutting) : w.value c = chk w 0 (w.kinds.map fun z => z.most) c := by
  have hl : (w.kinds.map fun z => z.most).length = w.kinds.length := List.length_map _
  have hg : ∀ k, (w.kinds.map fun z => z.most).getD k 0 = ((w.kinds[k]?).map fun z => z.most).getD 0 := fun k => by
    rw [List.getD_eq_getElem?_getD, List.getElem?_map]
  obtain ⟨h1, h2⟩ := chk_eq w c 0 _ hl
  unfold Wood.value
  by_cases h : ((List.range w.kinds.length).all fun k => decide ((c.filter fun x => x.2 == k).length ≤ ((w.kinds[k]?).map fun z => z.most).getD 0)) = true
  · rw [if_pos h, h1]
    intro k hk
    rw [hg]
    exact of_decide_eq_true (List.all_eq_true.mp h k (List.mem_range.mpr hk))
  · rw [if_neg h, h2]
    intro q
    refine h (List.all_eq_true.mpr fun k hk => decide_eq_true ?_)
    have := q k (List.mem_range.mp hk)
    rw [hg] at this
    exact this
/-- the logs of a cutting have no more parts than there are from the place on -/
theorem chk_len (w : Wood) : ∀ (c : Cutting) (x : Nat) (left : List Nat) (v : Nat), chk w x left c = some v → x ≤ w.stem.length → x + cutLen w.kinds c ≤ w.stem.length
  | [], x, left, v, _, hx => hx
  | (a, k) :: l, x, left, v, h, hx => by
    unfold chk at h
    cases hz : w.kinds[k]? with
    | none => rw [hz] at h; cases h
    | some z =>
      rw [hz] at h
      dsimp only at h
      by_cases h0 : left.getD k 0 = 0 ∨ a < x
      · rw [if_pos h0] at h; cases h
      · rw [if_neg h0] at h
        cases hw : worth z (w.stem.drop a) with
        | none => rw [hw] at h; cases h
        | some u =>
          rw [hw] at h
          obtain ⟨h1, h2⟩ := worth_some hw
          rw [List.length_drop] at h2
          cases hc : chk w (a + z.long) (left.set k (left.getD k 0 - 1)) l with
          | none => rw [show (some u).bind (fun v => Option.map (fun n => v + n) (chk w (a + z.long) (left.set k (left.getD k 0 - 1)) l)) = Option.map (fun n => u + n) (chk w (a + z.long) (left.set k (left.getD k 0 - 1)) l) from rfl, hc] at h; cases h
          | some n =>
            have ih := chk_len w l _ _ n hc (by omega)
            have e : cutLen w.kinds ((a, k) :: l) = z.long + cutLen w.kinds l := by
              show lenOf w.kinds k + cutLen w.kinds l = _
              have : lenOf w.kinds k = z.long := by unfold lenOf; rw [hz]; rfl
              rw [this]
            rw [e]
            omega
/-- one turn -/
theorem chk_turn {w : Wood} {x a k : Nat} {left : List Nat} {l : Cutting} {z : Kind} {v : Nat} (hz : w.kinds[k]? = some z) (h0 : left.getD k 0 ≠ 0) (hx : x ≤ a) (hw : worth z (w.stem.drop a) = some v) :
    chk w x left ((a, k) :: l) = (chk w (a + z.long) (left.set k (left.getD k 0 - 1)) l).map fun n => v + n := by
  rw [chk, hz]
  dsimp only
  rw [if_neg (by rintro (q | q); exact h0 q; omega), hw]
  rfl
theorem chk_stop {w : Wood} {x a k : Nat} {left : List Nat} {l : Cutting} (h : w.kinds[k]? = none ∨ left.getD k 0 = 0 ∨ a < x ∨ ∃ z, w.kinds[k]? = some z ∧ worth z (w.stem.drop a) = none) : chk w x left ((a, k) :: l) = none := by
  rw [chk]
  cases hz : w.kinds[k]? with
  | none => rfl
  | some z =>
    dsimp only
    by_cases c : left.getD k 0 = 0 ∨ a < x
    · rw [if_pos c]
    · rw [if_neg c]
      rcases h with h | h | h | ⟨y, h, hw⟩
      · rw [hz] at h; cases h
      · exact absurd (.inl h) c
      · exact absurd (.inr h) c
      · rw [hz] at h
        cases h
        rw [hw]
        rfl
theorem step_check {w : Wood} {c : Cutting} {v : Nat} (h : w.value c = some v) : step w (.check c) = (w, ⟨(v : Nat), [[w.stem.length - w.cut c]]⟩) := by
  unfold step
  dsimp only
  rw [h]
theorem step_check_none {w : Wood} {c : Cutting} (h : w.value c = none) : step w (.check c) = (w, ok (-6)) := by
  unfold step
  dsimp only
  rw [h]
/-- where the log of a kind may begin -/
def placesOf (w : Wood) (z : Kind) : List Nat := (List.range w.stem.length).filter fun a => (worth z (w.stem.drop a)).isSome
theorem step_places (w : Wood) : step w .grades = (w, ⟨(w.stem.length : Nat), w.kinds.map (placesOf w)⟩) := by
  unfold step
  dsimp only
  congr 2
  refine List.ext_getElem? fun k => ?_
  rw [List.getElem?_map, List.getElem?_map]
  by_cases hk : k < w.kinds.length
  · rw [List.getElem?_range hk, List.getElem?_eq_getElem hk]
    unfold placesOf
    rw [Option.map_some, Option.map_some]
    congr 1
    refine List.filter_congr fun a _ => ?_
    rw [List.getElem?_eq_getElem hk]
    rfl
  · rw [List.getElem?_eq_none (by rw [List.length_range]; omega), List.getElem?_eq_none (by omega)]
    rfl
end LC
/-! The heap: how the program's objects lie in it; the classes' making. -/
namespace LC
open PySem PySem.Spec PyProof.Rows L2
def top (i : Nat) : Stmt := PySem.Challenge.pw_logcuts_s01_answers.main.body.getD i (.Pass ⟨0, 0, 0, 0⟩)
abbrev sPartI : Stmt := inClass (top 20) 0
abbrev sKindI : Stmt := inClass (top 21) 0
abbrev sYardI : Stmt := inClass (top 22) 0
abbrev sLogI : Stmt := inClass (top 23) 0
abbrev sOutI : Stmt := inClass (top 24) 0
abbrev sIsStem : Stmt := top 25
abbrev sSetStem : Stmt := top 26
abbrev sIsKind : Stmt := top 27
abbrev sAddKind : Stmt := top 28
abbrev sOrder : Stmt := top 29
abbrev sMayCut : Stmt := top 30
abbrev sCutLog : Stmt := top 31
abbrev sWaste : Stmt := top 32
abbrev sLogsFrom : Stmt := top 33
abbrev sSteps : Stmt := top 34
abbrev sInStock : Stmt := top 35
abbrev sOutAt : Stmt := top 36
abbrev sAllOut : Stmt := top 37
abbrev sEarly : Stmt := top 38
abbrev sBest : Stmt := top 39
abbrev sCutting : Stmt := top 40
abbrev sCheck : Stmt := top 41
abbrev sMore : Stmt := top 42
abbrev sPlaces : Stmt := top 43
abbrev sCall : Stmt := top 44
abbrev sAnswers : Stmt := top 45
/-! ### fields -/
theorem lk_here {k : Str} {v : V} {r : List (Str × V)} : List.lookup k ((k, v) :: r) = some v := by
  have e : (k == k) = true := beq_self_eq_true k
  simp only [List.lookup, e]
theorem lk_past {k g : Str} {v : V} {r : List (Str × V)} (h : (k == g) = false) : List.lookup k ((g, v) :: r) = List.lookup k r := by
  simp only [List.lookup, h]
theorem put_here {f : Str} {v x : V} {r : List (Str × V)} : putF f v ((f, x) :: r) = (f, v) :: r := if_pos rfl
theorem put_past {f g : Str} {v x : V} {r : List (Str × V)} (h : ¬ g = f) : putF f v ((g, x) :: r) = (g, x) :: putF f v r := if_neg h
theorem lk_0 {k : Str} {v : V} {r : List (Str × V)} : List.lookup k ((k, v) :: r) = some v := lk_here
theorem lk_1 {k g0 : Str} {v x0 : V} {r : List (Str × V)} (h : (k == g0) = false := by decide +kernel) : List.lookup k ((g0, x0) :: (k, v) :: r) = some v := (lk_past h).trans lk_here
theorem lk_2 {k g0 g1 : Str} {v x0 x1 : V} {r : List (Str × V)} (h0 : (k == g0) = false := by decide +kernel) (h1 : (k == g1) = false := by decide +kernel) : List.lookup k ((g0, x0) :: (g1, x1) :: (k, v) :: r) = some v := (lk_past h0).trans (lk_1 h1)
theorem lk_3 {k g0 g1 g2 : Str} {v x0 x1 x2 : V} {r : List (Str × V)} (h0 : (k == g0) = false := by decide +kernel) (h1 : (k == g1) = false := by decide +kernel) (h2 : (k == g2) = false := by decide +kernel) : List.lookup k ((g0, x0) :: (g1, x1) :: (g2, x2) :: (k, v) :: r) = some v := (lk_past h0).trans (lk_2 h1 h2)
abbrev P1 (f0 : Str) (a : V) : List (Str × V) := [(f0, a)]
abbrev P2 (f0 f1 : Str) (a b : V) : List (Str × V) := [(f0, a), (f1, b)]
abbrev P3 (f0 f1 f2 : Str) (a b d : V) : List (Str × V) := [(f0, a), (f1, b), (f2, d)]
abbrev P4 (f0 f1 f2 f3 : Str) (a b d e : V) : List (Str × V) := [(f0, a), (f1, b), (f2, d), (f3, e)]
theorem put1 {f0 f1 : Str} {a b : V} (h0 : ¬ f0 = f1 := by decide +kernel) : putF f1 b (P1 f0 a) = P2 f0 f1 a b := (put_past h0).trans rfl
theorem put2 {f0 f1 f2 : Str} {a b d : V} (h0 : ¬ f0 = f2 := by decide +kernel) (h1 : ¬ f1 = f2 := by decide +kernel) : putF f2 d (P2 f0 f1 a b) = P3 f0 f1 f2 a b d := (put_past h0).trans (congrArg _ ((put_past h1).trans rfl))
theorem put3 {f0 f1 f2 f3 : Str} {a b d e : V} (h0 : ¬ f0 = f3 := by decide +kernel) (h1 : ¬ f1 = f3 := by decide +kernel) (h2 : ¬ f2 = f3 := by decide +kernel) : putF f3 e (P3 f0 f1 f2 a b d) = P4 f0 f1 f2 f3 a b d e := (put_past h0).trans (congrArg _ ((put_past h1).trans (congrArg _ ((put_past h2).trans rfl))))
/-- where the classes stand -/
structure Cs where
  P : Addr
  K : Addr
  Y : Addr
  L : Addr
  O : Addr
  rw : Addr
  lo : Addr
  hi : Addr
  wn : Addr
abbrev partF (p : Sw95.Part) : List (Str × V) := [("thickness", .int p.thick), ("grade", .int p.grade)]
abbrev kindF (z : Sw95.Kind) : List (Str × V) := [("length", .int z.long), ("thickness", .int z.thick), ("grade", .int z.grade), ("price", .int z.price)]
abbrev yardF (p k o : Addr) : List (Str × V) := [("parts", .ref p), ("kinds", .ref k), ("ordered", .ref o)]
abbrev logF (x e k v : Int) : List (Str × V) := [("place", .int x), ("end", .int e), ("number", .int k), ("worth", .int v)]
abbrev outF (v n : Int) (l : V) : List (Str × V) := [("worth", .int v), ("ways", .int n), ("log", l)]
/-- an instance of the class at C with these fields -/
def At (C : Addr) (H : Hp) (a : Addr) (fs : List (Str × V)) : Prop := ∃ dx, H a = some (.ins C dx fs)
theorem At.same {C : Addr} {H H' : Hp} {a : Addr} {fs : List (Str × V)} (h : At C H a fs) (s : Same H H') : At C H' a fs := Exists.elim h fun dx e => ⟨dx, s _ _ e⟩
/-- a list of objects: the things xs, one by one -/
def Objs {α : Type} (R : Hp → Addr → α → Prop) (H : Hp) (as : List Addr) (xs : List α) : Prop := as.length = xs.length ∧ ∀ (i : Nat) (a : Addr) (x : α), as[i]? = some a → xs[i]? = some x → R H a x
theorem Objs.mono {α : Type} {R : Hp → Addr → α → Prop} {H H' : Hp} {as : List Addr} {xs : List α} (h : Objs R H as xs) (m : ∀ a x, R H a x → R H' a x) : Objs R H' as xs := ⟨h.1, fun i a x ha hx => m a x (h.2 i a x ha hx)⟩
theorem Objs.nil {α : Type} {R : Hp → Addr → α → Prop} {H : Hp} : Objs R H [] ([] : List α) := ⟨rfl, fun i a x ha _ => by simp at ha⟩
theorem Objs.get {α : Type} {R : Hp → Addr → α → Prop} {H : Hp} {as : List Addr} {xs : List α} (h : Objs R H as xs) {i : Nat} {x : α} (hx : xs[i]? = some x) : ∃ a, as[i]? = some a ∧ R H a x := by
  have inx : i < xs.length := (List.getElem?_eq_some_iff.mp hx).1
  have hi' : i < as.length := by rw [h.1]; exact inx
  exact ⟨as[i], List.getElem?_eq_getElem hi', h.2 i _ x (List.getElem?_eq_getElem hi') hx⟩
theorem Objs.snoc {α : Type} {R : Hp → Addr → α → Prop} {H : Hp} {as : List Addr} {xs : List α} (h : Objs R H as xs) {a : Addr} {x : α} (r : R H a x) : Objs R H (as ++ [a]) (xs ++ [x]) := by
  refine ⟨by rw [List.length_append, List.length_append, h.1]; rfl, fun i b y hb hy => ?_⟩
  by_cases hi : i < as.length
  · rw [List.getElem?_append_left hi] at hb
    rw [List.getElem?_append_left (by rw [← h.1]; exact hi)] at hy
    exact h.2 i b y hb hy
  · have hi2 : as.length ≤ i := Nat.le_of_not_lt hi
    rw [List.getElem?_append_right hi2] at hb
    rw [List.getElem?_append_right (by rw [← h.1]; exact hi2), ← h.1] at hy
    cases e : i - as.length with
    | zero =>
      rw [e] at hb hy
      cases hb
      cases hy
      exact r
    | succ n =>
      rw [e] at hb
      simp at hb
abbrev PartAt (c : Cs) (H : Hp) (a : Addr) (p : Sw95.Part) : Prop := At c.P H a (partF p)
abbrev KindAt (c : Cs) (H : Hp) (a : Addr) (z : Sw95.Kind) : Prop := At c.K H a (kindF z)
theorem PartAt.same {c : Cs} {H H' : Hp} {a : Addr} {p : Sw95.Part} (h : PartAt c H a p) (s : Same H H') : PartAt c H' a p := At.same h s
/-- a list of refs whose objects are xs -/
def LstAt {α : Type} (R : Hp → Addr → α → Prop) (H : Hp) (l : Addr) (xs : List α) : Prop := ∃ as : List Addr, H l = some (.lst (as.map V.ref)) ∧ Objs R H as xs
theorem LstAt.mono {α : Type} {R : Hp → Addr → α → Prop} {H H' : Hp} {l : Addr} {xs : List α} (h : LstAt R H l xs) (s : Same H H') (m : ∀ a x, R H a x → R H' a x) : LstAt R H' l xs := by
  obtain ⟨as, h1, h2⟩ := h
  exact ⟨as, s _ _ h1, h2.mono m⟩
abbrev PartsAt (c : Cs) (H : Hp) (l : Addr) (ps : List Sw95.Part) : Prop := LstAt (PartAt c) H l ps
abbrev KindsAt (c : Cs) (H : Hp) (l : Addr) (zs : List Sw95.Kind) : Prop := LstAt (KindAt c) H l zs
theorem PartsAt.same {c : Cs} {H H' : Hp} {l : Addr} {ps : List Sw95.Part} (h : PartsAt c H l ps) (s : Same H H') : PartsAt c H' l ps := LstAt.mono h s fun _ _ r => At.same r s
theorem KindsAt.same {c : Cs} {H H' : Hp} {l : Addr} {ps : List Sw95.Kind} (h : KindsAt c H l ps) (s : Same H H') : KindsAt c H' l ps := LstAt.mono h s fun _ _ r => At.same r s
/-- a list of numbers without sign -/
abbrev IntsAt (H : Hp) (l : Addr) (ns : List Nat) : Prop := H l = some (.lst (ns.map fun (n : Nat) => V.int (n : Int)))
/-! ### what the top has written -/
/-- a constant of the top -/
def Cst (mg : Str → Option Value) (x : Str) (v : V) : Prop := ∃ u, mg x = some u ∧ RelV v u
theorem pe_k {X : Cx} {x : Str} {v : V} {pos : Pos} (hg : Gl X x) (h : Cst X.mg x v) (hd : (x == ("__debug__" : Str)) = false := by decide) : PE X (.Name x pos) (tC v) :=
  h.elim fun _ q => pe_glob hg q.1 q.2 hd
theorem ifT {c : Bool} {A B : Prop} (hc : c = true) (h : A) : if c = true then A else B := by
  rw [if_pos hc]
  exact h
theorem ifF {c : Bool} {A B : Prop} (hc : c = false) (h : B) : if c = true then A else B := by
  rw [hc, if_neg Bool.false_ne_true]
  exact h
/-- the dict at a, as the top has written it, holds v at i -/
def KDctI (K : PySem.W.Frag) (a : Addr) (i : Int) (v : V) : Prop :=
  ∃ es n u, K.lookup a = some ⟨.type "dict", none, .dict es n, #[]⟩ ∧ (∀ e ∈ es, ∃ j t, e.key = .int j t ∧ e.hash = hashInt j) ∧ findBy Value.isInt es i = some u ∧ RelV v u
/-- all keys are whole numbers -/
def intDict (es : Array DictEntry) : Bool := es.toList.all fun e => match e.key with
  | .int j _ => e.hash == hashInt j
  | _ => false
theorem intDict_keys {es : Array DictEntry} (h : intDict es = true) : ∀ e ∈ es, ∃ j t, e.key = .int j t ∧ e.hash = hashInt j := fun e he => by
  have q := List.all_eq_true.mp h e (Array.mem_toList_iff.mpr he)
  split at q
  · rename_i j t ek
    exact ⟨j, t, ek, eq_of_beq q⟩
  · cases q
structure Txt (K : PySem.W.Frag) (mg : Str → Option Value) (c : Cs) : Prop where
  clP : Cls K c.P
  clK : Cls K c.K
  clY : Cls K c.Y
  clL : Cls K c.L
  clO : Cls K c.O
  pT : NoAttr K c.P "thickness"
  pG : NoAttr K c.P "grade"
  kL : NoAttr K c.K "length"
  kT : NoAttr K c.K "thickness"
  kG : NoAttr K c.K "grade"
  kP : NoAttr K c.K "price"
  yP : NoAttr K c.Y "parts"
  yK : NoAttr K c.Y "kinds"
  yO : NoAttr K c.Y "ordered"
  lP : NoAttr K c.L "place"
  lE : NoAttr K c.L "end"
  lN : NoAttr K c.L "number"
  lW : NoAttr K c.L "worth"
  oW : NoAttr K c.O "worth"
  oM : NoAttr K c.O "ways"
  oL : NoAttr K c.O "log"
  pY : c.P ≠ c.Y
  kY : c.K ≠ c.Y
  gP : mg "Part" = some (.ref c.P)
  gK : mg "Kind" = some (.ref c.K)
  gY : mg "Yard" = some (.ref c.Y)
  gL : mg "Log" = some (.ref c.L)
  gO : mg "Outlook" = some (.ref c.O)
  len : mg "len" = none
  range : mg "range" = none
  zip : mg "zip" = none
  all : mg "all" = none
  sum : mg "sum" = none
  list : mg "list" = none
  cParts : Cst mg "MOST_PARTS" (.int 40)
  cThick : Cst mg "MOST_THICKNESS" (.int 100)
  cGrade : Cst mg "WORST_GRADE" (.int 9)
  cKinds : Cst mg "MOST_KINDS" (.int 3)
  cMost : Cst mg "MOST_ORDERED" (.int 4)
  cTold : Cst mg "NOT_AS_TOLD" (.int (-1))
  cNoKind : Cst mg "NO_SUCH_KIND" (.int (-2))
  cNoMore : Cst mg "NO_MORE_KINDS" (.int (-5))
  cStem : Cst mg "CALL_STEM" (.int 0)
  cKind : Cst mg "CALL_KIND" (.int 1)
  cOrder : Cst mg "CALL_ORDER" (.int 2)
  cBest : Cst mg "CALL_BEST" (.int 3)
  cCheck : Cst mg "CALL_CHECK" (.int 4)
  cMore : Cst mg "CALL_MORE" (.int 5)
  cNoCut : Cst mg "NO_CUTTING" (.int (-6))
  cRow : Cst mg "CALLS_WITH_A_ROW" (.ref c.rw)
  tRow : ∀ H, SqT K H c.rw [.int 0, .int 4]
  cWhole : Cst mg "WHOLE_NUMBERS" (.ref c.wn)
  dWhole1 : KDctI K c.wn 1 (.int 5)
  dWhole2 : KDctI K c.wn 2 (.int 2)
  dWhole3 : KDctI K c.wn 3 (.int 0)
  dWhole5 : KDctI K c.wn 5 (.int 1)
  dWhole6 : KDctI K c.wn 6 (.int 0)
  cLeast : Cst mg "LEAST_OF_KIND" (.ref c.lo)
  cLargest : Cst mg "MOST_OF_KIND" (.ref c.hi)
  tLeast : ∀ H, SqT K H c.lo [.int 1, .int 0, .int 0, .int 0, .int 0]
  tLargest : ∀ H, SqT K H c.hi [.int 40, .int 100, .int 9, .int 1000, .int 4]
/-! ### the classes' __init__ -/
/-- an __init__ that stores its arguments, and nothing else -/
def spInit (C : Addr) (n : Nat) (fs : List V → List (Str × V)) : Sp := fun vs H Q _ => ∃ (p dx : Addr) (us : List V), vs = .ref p :: us ∧ us.length = n ∧ H p = some (.ins C dx []) ∧
  ∀ H' : Hp, H' p = some (.ins C dx (fs us)) → (∀ b o, H b = some o → b ≠ p → H' b = some o) → Q .non H'
def fs2 (f0 f1 : Str) : List V → List (Str × V)
  | [a, b] => [(f0, a), (f1, b)]
  | _ => []
def fs3 (f0 f1 f2 : Str) : List V → List (Str × V)
  | [a, b, d] => [(f0, a), (f1, b), (f2, d)]
  | _ => []
def fs4 (f0 f1 f2 f3 : Str) : List V → List (Str × V)
  | [a, b, d, e] => [(f0, a), (f1, b), (f2, d), (f3, e)]
  | _ => []
section
variable {P : Program} {w : World} {K : PySem.W.Frag} {mg : Str → Option Value} {base : Heap} {c : Cs}
theorem scPartI : FnScope ["self", "thickness", "grade"] ["self", "thickness", "grade"] (defScope sPartI) := ⟨rfl, rfl, rfl, by decide +kernel, rfl, by decide +kernel, by decide +kernel⟩
theorem ok_partI {f : Addr} {fd : FuncData} (F : Fun K "__init__" "Part.__init__" sPartI f fd) (T : Txt K mg c) : FnOk P w K mg base CX0 1 f fd ["self", "thickness", "grade"] (spInit c.P 2 (fs2 "thickness" "grade")) := by
  refine F.ok scPartI (fun vs H Q E h => ?_) (fun cdv A outer s H vs Q E hr h => ?_)
  · obtain ⟨p, dx, us, rfl, hl, _⟩ := h
    rw [List.length_cons, hl]
    rfl
  · obtain ⟨p, dx, us, rfl, hl, hp, k⟩ := h
    match us, hl with
    | [a, b], _ =>
    refine ⟨_, pss_cons (ps_fld (pv 0) (pv 1) rfl) (pss_one (ps_fld (pv 0) (pv 2) rfl)), ?_⟩
    refine ⟨_, rfl, _, rfl, p, c.P, dx, [], rfl, hp, T.clP, T.pT, (by show 0 < 1000; decide), ?_⟩
    refine ⟨_, rfl, _, rfl, p, c.P, dx, _, rfl, upd_same, T.clP, T.pG, (by show 1 < 1000; decide), ?_⟩
    refine k _ (Eq.trans upd_same (congrArg (fun q => some (HO.ins c.P dx q)) ?_)) fun b o e hb => by rw [upd_ne hb, upd_ne hb]; exact e
    exact (put_past (by decide +kernel)).trans rfl
theorem scKindI : FnScope ["self", "length", "thickness", "grade", "price"] ["self", "length", "thickness", "grade", "price"] (defScope sKindI) := ⟨rfl, rfl, rfl, by decide +kernel, rfl, by decide +kernel, by decide +kernel⟩
theorem ok_kindI {f : Addr} {fd : FuncData} (F : Fun K "__init__" "Kind.__init__" sKindI f fd) (T : Txt K mg c) : FnOk P w K mg base CX0 1 f fd ["self", "length", "thickness", "grade", "price"] (spInit c.K 4 (fs4 "length" "thickness" "grade" "price")) := by
  refine F.ok scKindI (fun vs H Q E h => ?_) (fun cdv A outer s H vs Q E hr h => ?_)
  · obtain ⟨p, dx, us, rfl, hl, _⟩ := h
    rw [List.length_cons, hl]
    rfl
  · obtain ⟨p, dx, us, rfl, hl, hp, k⟩ := h
    match us, hl with
    | [a, b, d, e], _ =>
    refine ⟨_, pss_cons (ps_fld (pv 0) (pv 1) rfl) (pss_cons (ps_fld (pv 0) (pv 2) rfl) (pss_cons (ps_fld (pv 0) (pv 3) rfl) (pss_one (ps_fld (pv 0) (pv 4) rfl)))), ?_⟩
    refine ⟨_, rfl, _, rfl, p, c.K, dx, [], rfl, hp, T.clK, T.kL, (by show 0 < 1000; decide), ?_⟩
    refine ⟨_, rfl, _, rfl, p, c.K, dx, [("length", a)], rfl, upd_same, T.clK, T.kT, (by show 1 < 1000; decide), ?_⟩
    have e2 := put1 (f0 := "length") (f1 := "thickness") (a := a) (b := b)
    refine ⟨_, rfl, _, rfl, p, c.K, dx, P2 "length" "thickness" a b, rfl, Eq.trans upd_same (congrArg (fun q => some (HO.ins c.K dx q)) e2), T.clK, T.kG, (by show 2 < 1000; decide), ?_⟩
    have e3 := put2 (f0 := "length") (f1 := "thickness") (f2 := "grade") (a := a) (b := b) (d := d)
    refine ⟨_, rfl, _, rfl, p, c.K, dx, P3 "length" "thickness" "grade" a b d, rfl, Eq.trans upd_same (congrArg (fun q => some (HO.ins c.K dx q)) e3), T.clK, T.kP, (by show 3 < 1000; decide), ?_⟩
    have e4 := put3 (f0 := "length") (f1 := "thickness") (f2 := "grade") (f3 := "price") (a := a) (b := b) (d := d) (e := e)
    exact k _ (Eq.trans upd_same (congrArg (fun q => some (HO.ins c.K dx q)) e4)) fun b o e hb => by rw [upd_ne hb, upd_ne hb, upd_ne hb, upd_ne hb]; exact e
theorem scLogI : FnScope ["self", "place", "end", "number", "worth"] ["self", "place", "end", "number", "worth"] (defScope sLogI) := ⟨rfl, rfl, rfl, by decide +kernel, rfl, by decide +kernel, by decide +kernel⟩
theorem ok_logI {f : Addr} {fd : FuncData} (F : Fun K "__init__" "Log.__init__" sLogI f fd) (T : Txt K mg c) : FnOk P w K mg base CX0 1 f fd ["self", "place", "end", "number", "worth"] (spInit c.L 4 (fs4 "place" "end" "number" "worth")) := by
  refine F.ok scLogI (fun vs H Q E h => ?_) (fun cdv A outer s H vs Q E hr h => ?_)
  · obtain ⟨p, dx, us, rfl, hl, _⟩ := h
    rw [List.length_cons, hl]
    rfl
  · obtain ⟨p, dx, us, rfl, hl, hp, k⟩ := h
    match us, hl with
    | [a, b, d, e], _ =>
    refine ⟨_, pss_cons (ps_fld (pv 0) (pv 1) rfl) (pss_cons (ps_fld (pv 0) (pv 2) rfl) (pss_cons (ps_fld (pv 0) (pv 3) rfl) (pss_one (ps_fld (pv 0) (pv 4) rfl)))), ?_⟩
    refine ⟨_, rfl, _, rfl, p, c.L, dx, [], rfl, hp, T.clL, T.lP, (by show 0 < 1000; decide), ?_⟩
    refine ⟨_, rfl, _, rfl, p, c.L, dx, [("place", a)], rfl, upd_same, T.clL, T.lE, (by show 1 < 1000; decide), ?_⟩
    have e2 := put1 (f0 := "place") (f1 := "end") (a := a) (b := b)
    refine ⟨_, rfl, _, rfl, p, c.L, dx, P2 "place" "end" a b, rfl, Eq.trans upd_same (congrArg (fun q => some (HO.ins c.L dx q)) e2), T.clL, T.lN, (by show 2 < 1000; decide), ?_⟩
    have e3 := put2 (f0 := "place") (f1 := "end") (f2 := "number") (a := a) (b := b) (d := d)
    refine ⟨_, rfl, _, rfl, p, c.L, dx, P3 "place" "end" "number" a b d, rfl, Eq.trans upd_same (congrArg (fun q => some (HO.ins c.L dx q)) e3), T.clL, T.lW, (by show 3 < 1000; decide), ?_⟩
    have e4 := put3 (f0 := "place") (f1 := "end") (f2 := "number") (f3 := "worth") (a := a) (b := b) (d := d) (e := e)
    exact k _ (Eq.trans upd_same (congrArg (fun q => some (HO.ins c.L dx q)) e4)) fun b o e hb => by rw [upd_ne hb, upd_ne hb, upd_ne hb, upd_ne hb]; exact e
theorem scOutI : FnScope ["self", "worth", "ways", "log"] ["self", "worth", "ways", "log"] (defScope sOutI) := ⟨rfl, rfl, rfl, by decide +kernel, rfl, by decide +kernel, by decide +kernel⟩
theorem ok_outI {f : Addr} {fd : FuncData} (F : Fun K "__init__" "Outlook.__init__" sOutI f fd) (T : Txt K mg c) : FnOk P w K mg base CX0 1 f fd ["self", "worth", "ways", "log"] (spInit c.O 3 (fs3 "worth" "ways" "log")) := by
  refine F.ok scOutI (fun vs H Q E h => ?_) (fun cdv A outer s H vs Q E hr h => ?_)
  · obtain ⟨p, dx, us, rfl, hl, _⟩ := h
    rw [List.length_cons, hl]
    rfl
  · obtain ⟨p, dx, us, rfl, hl, hp, k⟩ := h
    match us, hl with
    | [a, b, d], _ =>
    refine ⟨_, pss_cons (ps_fld (pv 0) (pv 1) rfl) (pss_cons (ps_fld (pv 0) (pv 2) rfl) (pss_one (ps_fld (pv 0) (pv 3) rfl))), ?_⟩
    refine ⟨_, rfl, _, rfl, p, c.O, dx, [], rfl, hp, T.clO, T.oW, (by show 0 < 1000; decide), ?_⟩
    refine ⟨_, rfl, _, rfl, p, c.O, dx, [("worth", a)], rfl, upd_same, T.clO, T.oM, (by show 1 < 1000; decide), ?_⟩
    have e2 := put1 (f0 := "worth") (f1 := "ways") (a := a) (b := b)
    refine ⟨_, rfl, _, rfl, p, c.O, dx, P2 "worth" "ways" a b, rfl, Eq.trans upd_same (congrArg (fun q => some (HO.ins c.O dx q)) e2), T.clO, T.oL, (by show 2 < 1000; decide), ?_⟩
    have e3 := put2 (f0 := "worth") (f1 := "ways") (f2 := "log") (a := a) (b := b) (d := d)
    exact k _ (Eq.trans upd_same (congrArg (fun q => some (HO.ins c.O dx q)) e3)) fun b o e hb => by rw [upd_ne hb, upd_ne hb, upd_ne hb]; exact e
/-- Yard(): three new lists -/
def spYardI (C : Addr) : Sp := fun vs H Q _ => ∃ (p dx : Addr), vs = [.ref p] ∧ H p = some (.ins C dx []) ∧
  ∀ (H' : Hp) (a b d : Addr), H' p = some (.ins C dx (yardF a b d)) → H a = none → H b = none → H d = none → a ≠ b → a ≠ d → b ≠ d → H' a = some (.lst []) → H' b = some (.lst []) → H' d = some (.lst []) →
    (∀ b o, H b = some o → b ≠ p → H' b = some o) → Q .non H'
theorem scYardI : FnScope ["self"] ["self"] (defScope sYardI) := ⟨rfl, rfl, rfl, by decide +kernel, rfl, by decide +kernel, by decide +kernel⟩
theorem ok_yardI {f : Addr} {fd : FuncData} (F : Fun K "__init__" "Yard.__init__" sYardI f fd) (T : Txt K mg c) : FnOk P w K mg base CX0 1 f fd ["self"] (spYardI c.Y) := by
  refine F.ok scYardI (fun vs H Q E h => ?_) (fun cdv A outer s H vs Q E hr h => ?_)
  · obtain ⟨p, dx, rfl, _⟩ := h
    rfl
  · obtain ⟨p, dx, rfl, hp, k⟩ := h
    refine ⟨_, pss_cons (ps_fld (pv 0) (pe_lst pa_nil) rfl) (pss_cons (ps_fld (pv 0) (pe_lst pa_nil) rfl) (pss_one (ps_fld (pv 0) (pe_lst pa_nil) rfl))), ?_⟩
    refine ⟨Nat.zero_le _, fun a ha => ?_⟩
    have pa : p ≠ a := ne_of_none hp ha
    refine ⟨_, rfl, p, c.Y, dx, [], rfl, (by rw [upd_ne pa]; exact hp), T.clY, T.yP, (by show 0 < 1000; decide), ?_⟩
    refine ⟨Nat.zero_le _, fun b hb => ?_⟩
    have pb : p ≠ b := fun q => by rw [q, upd_same] at hb; cases hb
    have ab : a ≠ b := fun q => by rw [← q, upd_ne pa.symm, upd_same] at hb; cases hb
    have hb0 : H b = Option.none := by rw [upd_ne pb.symm, upd_ne ab.symm] at hb; exact hb
    refine ⟨_, rfl, p, c.Y, dx, [("parts", .ref a)], rfl, (by rw [upd_ne pb, upd_same]; rfl), T.clY, T.yK, (by show 1 < 1000; decide), ?_⟩
    refine ⟨Nat.zero_le _, fun d hd => ?_⟩
    have pd : p ≠ d := fun q => by rw [q, upd_same] at hd; cases hd
    have bd : b ≠ d := fun q => by rw [← q, upd_ne pb.symm, upd_same] at hd; cases hd
    have ad : a ≠ d := fun q => by rw [← q, upd_ne pa.symm, upd_ne ab, upd_ne pa.symm, upd_same] at hd; cases hd
    have hd0 : H d = Option.none := by rw [upd_ne pd.symm, upd_ne bd.symm, upd_ne pd.symm, upd_ne ad.symm] at hd; exact hd
    have e2 := put1 (f0 := "parts") (f1 := "kinds") (a := (.ref a)) (b := (.ref b))
    refine ⟨_, rfl, p, c.Y, dx, [("parts", .ref a), ("kinds", .ref b)], rfl, (by rw [upd_ne pd, upd_same, e2]), T.clY, T.yO, (by show 2 < 1000; decide), ?_⟩
    have e3 := put2 (f0 := "parts") (f1 := "kinds") (f2 := "ordered") (a := (.ref a)) (b := (.ref b)) (d := (.ref d))
    refine k _ a b d (by rw [upd_same, e3]) ha hb0 hd0 ab ad bd ?_ ?_ ?_ fun x o e hx => ?_
    · rw [upd_ne pa.symm, upd_ne ad, upd_ne pa.symm, upd_ne ab, upd_ne pa.symm, upd_same]
    · rw [upd_ne pb.symm, upd_ne bd, upd_ne pb.symm, upd_same]
    · rw [upd_ne pd.symm, upd_same]
    · rw [upd_ne hx, upd_ne (ne_of_none e hd0), upd_ne hx, upd_ne (ne_of_none e hb0), upd_ne hx, upd_ne (ne_of_none e ha)]
      exact e
end
end LC
namespace LC
open PySem PySem.Spec PyProof.Rows L2
theorem drop_at {α : Type} : ∀ {l : List α} {i : Nat} {x : α}, l[i]? = some x → l.drop i = x :: l.drop (i + 1)
  | [], i, x, h => by simp at h
  | a :: l, 0, x, h => by
    have e : a = x := Option.some.inj h
    subst e
    rfl
  | a :: l, i + 1, x, h => drop_at (l := l) (i := i) h
theorem map_at {α : Type} {f : α → V} {l : List α} {i : Nat} {y : V} (h : (l.map f)[i]? = some y) : ∃ x, l[i]? = some x ∧ y = f x := by
  rw [List.getElem?_map] at h
  cases e : l[i]? with
  | none => rw [e] at h; cases h
  | some x => rw [e] at h; exact ⟨x, rfl, (Option.some.inj h).symm⟩
theorem Objs.at {α : Type} {R : Hp → Addr → α → Prop} {H : Hp} {as : List Addr} {xs : List α} (h : Objs R H as xs) {i : Nat} {a : Addr} (ha : as[i]? = some a) : ∃ x, xs[i]? = some x ∧ R H a x := by
  have ina : i < as.length := (List.getElem?_eq_some_iff.mp ha).1
  have hi' : i < xs.length := by rw [← h.1]; exact ina
  exact ⟨xs[i], List.getElem?_eq_getElem hi', h.2 i _ _ ha (List.getElem?_eq_getElem hi')⟩
section
variable {P : Program} {w : World} {K : PySem.W.Frag} {mg : Str → Option Value} {base : Heap} {c : Cs}
/-! ### is_stem -/
def spIsStem (c : Cs) : Sp := fun vs H Q _ => ∃ (l : Addr) (ps : List Sw95.Part), vs = [.ref l] ∧ PartsAt c H l ps ∧ Q (.bl (stemOk ps)) H
theorem scIsStem : FnScope ["parts", "thickest", "part"] ["parts"] (defScope sIsStem) := ⟨rfl, rfl, rfl, by decide +kernel, rfl, by decide +kernel, by decide +kernel⟩
theorem ok_isStem {f : Addr} {fd : FuncData} (F : Fun K "is_stem" "is_stem" sIsStem f fd) (T : Txt K mg c) : FnOk P w K mg base CX0 1 f fd ["parts"] (spIsStem c) := by
  refine F.ok scIsStem (fun vs H Q E h => ?_) (fun cdv A outer s H vs Q E hr h => ?_)
  · obtain ⟨l, ps, rfl, _⟩ := h
    rfl
  · obtain ⟨l, ps, rfl, ⟨as, hl, ho⟩, k⟩ := h
    refine ⟨_, pss_cons (ps_if (pt_cmpR op_gt (pe_callB call_len_seq (by rfl) T.len PySem.boot_len (pa_cons (pv 0) pa_nil)) (pe_k (by rfl) T.cParts) (nomark _)) (pss_one (ps_ret pe_bl)) pss_nil)
      (pss_cons (ps_set (i := 1) scIsStem.nd rfl (Or.inl rfl) (pe_k (by rfl) T.cThick))
      (pss_cons (ps_for PassesOwn.never rfl (pi_list (pv 0)) (pg_name (i := 2) scIsStem.nd rfl (Or.inl rfl))
        (pss_cons (ps_if (PW.pt (pw_or (pt_cmpR op_lt (pe_fld (pv 2) rfl) pe_int (nomark _)) (pw_or (pt_cmpR op_gt (pe_fld (pv 2) rfl) (pv 1) (nomark _)) (pw_or1 (pt_cmpR op_gt (pe_fld (pv 2) rfl) (pe_k (by rfl) T.cGrade) (nomark _)))))) (pss_one (ps_ret pe_bl)) pss_nil)
          (pss_one (ps_set (i := 1) scIsStem.nd rfl (Or.inl rfl) (pe_fld (pv 2) rfl)))))
      (pss_one (ps_ret pe_bl)))), ?_⟩
    refine ⟨_, rfl, l, _, rfl, .inl (SqL.of hl), _, _, rfl, rfl, _, rfl, ?_⟩
    have hlen : (as.map V.ref).length = ps.length := by rw [List.length_map, ho.1]
    by_cases h40 : ps.length ≤ 40
    · refine ifF (decide_eq_false (by rw [hlen]; omega)) ?_
      refine ⟨_, rfl, l, rfl, ⟨_, SqL.of hl⟩, for_list (K := K) (a := l) (xs := as.map V.ref) (fun i σ H' => ∃ (t : Nat) (v : Option V), σ = [some (.ref l), some (.int t), v] ∧ H' = H ∧ stemGo 100 ps = stemGo t (ps.drop i)) ⟨100, none, rfl, rfl, rfl⟩
        (fun i σ H' _ ⟨_, _, _, e, _⟩ => by rw [e]; exact SqL.of hl) ?_ ?_⟩
      · rintro i y σ H' hi ⟨t, v, rfl, rfl, eg⟩
        obtain ⟨a, ha, rfl⟩ := map_at hi
        obtain ⟨p, hp, dx, hx⟩ := ho.at ha
        rw [drop_at hp, stemGo] at eg
        have kf : stemGo 100 ps = false → Q (.bl false) H' := fun e => by
          have q : stemOk ps = false := by unfold stemOk; rw [e, Bool.and_false]
          rw [q] at k
          exact k
        refine ⟨_, rfl, a, c.P, dx, _, _, rfl, hx, T.clP, T.pT, lk_0, _, _, rfl, rfl, _, rfl, ?_⟩
        by_cases h1 : (p.thick : Int) < 1
        · refine ifT (decide_eq_true h1) ?_
          refine iteT (kf ?_)
          rw [eg, decide_eq_false (show ¬ 1 ≤ p.thick by omega), Bool.false_and]
        · refine ifF (decide_eq_false h1) ?_
          refine ⟨_, rfl, a, c.P, dx, _, _, rfl, hx, T.clP, T.pT, lk_0, _, rfl, _, _, rfl, rfl, _, rfl, ?_⟩
          by_cases h2 : (t : Int) < (p.thick : Int)
          · refine ifT (decide_eq_true h2) ?_
            refine iteT (kf ?_)
            rw [eg, decide_eq_false (show ¬ p.thick ≤ t by omega), Bool.false_and, Bool.and_false]
          · refine ifF (decide_eq_false h2) ?_
            refine ⟨_, rfl, a, c.P, dx, _, _, rfl, hx, T.clP, T.pG, lk_1, _, _, rfl, rfl, _, rfl, ?_⟩
            by_cases h3 : (9 : Int) < (p.grade : Int)
            · refine ifT (decide_eq_true h3) ?_
              refine kf ?_
              rw [eg, decide_eq_false (show ¬ p.grade ≤ 9 by omega), Bool.false_and, Bool.and_false, Bool.and_false]
            · refine ifF (decide_eq_false h3) ?_
              refine ⟨_, rfl, a, c.P, dx, _, _, rfl, hx, T.clP, T.pT, lk_0, p.thick, _, rfl, rfl, ?_⟩
              rw [eg, decide_eq_true (show 1 ≤ p.thick by omega), decide_eq_true (show p.thick ≤ t by omega), decide_eq_true (show p.grade ≤ 9 by omega), Bool.true_and, Bool.true_and, Bool.true_and]
      · rintro σ H' ⟨t, v, rfl, rfl, eg⟩
        rw [hlen, List.drop_length] at eg
        have q : stemOk ps = true := by unfold stemOk; rw [eg, decide_eq_true h40]; rfl
        rw [q] at k
        exact k
    · refine ifT (decide_eq_true (by rw [hlen]; omega)) ?_
      have q : stemOk ps = false := by unfold stemOk; rw [decide_eq_false h40]; rfl
      rw [q] at k
      exact k
/-! ### in_stock, log_worth -/
def spInStock : Sp := fun vs H Q _ => ∃ (st : Addr) (os : List Nat) (n k : Nat), vs = [.int n, .ref st, .int k] ∧ IntsAt H st (stepsL os) ∧ k < os.length ∧ Q (.bl (decide ((digits os n).getD k 0 ≠ 0))) H
theorem scInStock : FnScope ["stock", "steps", "number"] ["stock", "steps", "number"] (defScope sInStock) := ⟨rfl, rfl, rfl, by decide +kernel, rfl, by decide +kernel, by decide +kernel⟩
theorem nat_at {l : List Nat} {i n : Nat} (h : l[i]? = some n) : atI (l.map fun (n : Nat) => V.int (n : Int)) (i : Int) = some (V.int (n : Int)) := by
  refine atI_nat ?_
  rw [List.getElem?_map, h]
  rfl
theorem ok_inStock {f : Addr} {fd : FuncData} (F : Fun K "in_stock" "in_stock" sInStock f fd) : FnOk P w K mg base CX0 1 f fd ["stock", "steps", "number"] spInStock := by
  refine F.ok scInStock (fun vs H Q E h => ?_) (fun cdv A outer s H vs Q E hr h => ?_)
  · obtain ⟨st, os, n, k, rfl, _⟩ := h
    rfl
  · obtain ⟨st, os, n, k, rfl, hs, hk, q⟩ := h
    refine ⟨_, pss_one (ps_ret (pe_cmpR op_ge (pe_op op_modN (pv 0) (pe_ix ix_list (pv 1) (pe_op op_add (pv 2) pe_int) (fun _ _ => rfl))) (pe_ix ix_list (pv 1) (pv 2) (fun _ _ => rfl)) (nomark _))), ?_⟩
    have a1 : atI ((stepsL os).map fun (n : Nat) => V.int (n : Int)) ((k : Int) + 1) = some (V.int (stepAt os (k + 1) : Nat)) := nat_at (stepsL_at hk)
    have a0 := nat_at (stepsL_at (os := os) (Nat.le_of_lt hk))
    have hp := stepAt_pos os (k + 1)
    refine ⟨_, rfl, _, rfl, _, rfl, _, _, rfl, rfl, st, _, _, _, rfl, rfl, SqL.of hs, a1, _, _, rfl, rfl, ⟨(by omega), ?_⟩⟩
    refine ⟨_, rfl, _, rfl, st, _, _, _, rfl, rfl, SqL.of hs, a0, _, _, rfl, rfl, ?_⟩
    have e : decide ((stepAt os k : Int) ≤ (n : Int).fmod (stepAt os (k + 1) : Int)) = decide ((digits os n).getD k 0 ≠ 0) := by
      refine decide_eq_decide.mpr ?_
      rw [← in_stock_iff os k n hk, Int.fmod_eq_emod_of_nonneg _ (by omega)]
      omega
    show Q (.bl (decide ((stepAt os k : Int) ≤ (n : Int).fmod (stepAt os (k + 1) : Int)))) H
    rw [e]
    exact q
end
end LC
namespace LC
open PySem PySem.Spec PyProof.Rows L2
/-! ### what a log is worth -/
theorem worth_short {z : Sw95.Kind} {ps : List Sw95.Part} {x : Nat} (h1 : 1 ≤ z.long) (h : ps.length < x + z.long) : Sw95.worth z (ps.drop x) = none := by
  unfold Sw95.worth
  rw [if_pos (.inr (by rw [List.length_drop]; omega))]
theorem seg_last {ps : List Sw95.Part} {x n : Nat} {q : Sw95.Part} (h1 : 1 ≤ n) (hq : ps[x + n - 1]? = some q) : ((ps.drop x).take n).getLast? = some q := by
  have hlt : x + n - 1 < ps.length := (List.getElem?_eq_some_iff.mp hq).1
  rw [List.getLast?_eq_getElem?, List.length_take, List.length_drop, show min n (ps.length - x) = n by omega, List.getElem?_take, if_pos (by omega), List.getElem?_drop, show x + (n - 1) = x + n - 1 by omega]
  exact hq
theorem worth_long {z : Sw95.Kind} {ps : List Sw95.Part} {x : Nat} {q : Sw95.Part} (h1 : 1 ≤ z.long) (hq : ps[x + z.long - 1]? = some q) :
    Sw95.worth z (ps.drop x) = if q.thick < z.thick ∨ (((ps.drop x).take z.long).any fun y => decide (z.grade < y.grade)) = true then none else some (z.price * z.long * (q.thick * q.thick)) := by
  have hlt : x + z.long - 1 < ps.length := (List.getElem?_eq_some_iff.mp hq).1
  unfold Sw95.worth
  rw [if_neg (by rw [List.length_drop]; omega)]
  dsimp only
  rw [seg_last h1 hq]
  rfl
theorem worth_val {z : Sw95.Kind} {ps : List Sw95.Part} {x v : Nat} (h1 : 1 ≤ z.long) (h : Sw95.worth z (ps.drop x) = some v) : ∃ q, ps[x + z.long - 1]? = some q ∧ x + z.long ≤ ps.length ∧ v = z.price * z.long * (q.thick * q.thick) := by
  have h2 : x + z.long ≤ ps.length := Classical.byContradiction fun c => by
    rw [worth_short h1 (by omega)] at h
    cases h
  have hlt : x + z.long - 1 < ps.length := by omega
  refine ⟨ps[x + z.long - 1], List.getElem?_eq_getElem hlt, h2, ?_⟩
  rw [worth_long h1 (List.getElem?_eq_getElem hlt)] at h
  split at h
  · cases h
  · exact (Option.some.inj h).symm
theorem Objs.seg {α : Type} {R : Hp → Addr → α → Prop} {H : Hp} {as : List Addr} {xs : List α} (h : Objs R H as xs) (x n : Nat) : Objs R H ((as.drop x).take n) ((xs.drop x).take n) := by
  refine ⟨by rw [List.length_take, List.length_take, List.length_drop, List.length_drop, h.1], fun i a y ha hy => ?_⟩
  rw [List.getElem?_take] at ha hy
  by_cases hi : i < n
  · rw [if_pos hi, List.getElem?_drop] at ha hy
    exact h.2 _ a y ha hy
  · rw [if_neg hi] at ha
    cases ha
theorem cut_seg (as : List Addr) (x n : Nat) (h : x + n ≤ as.length) : cutV (as.map V.ref) (some (x : Int)) (some ((x : Int) + (n : Int))) = ((as.drop x).take n).map V.ref := by
  have e : ((x : Int) + (n : Int)) = ((x + n : Nat) : Int) := by omega
  unfold cutV
  rw [e, HT.sIx_nat, HT.sIx_nat, List.length_map, show min x as.length = x by omega, show min (x + n) as.length - x = n by omega, List.map_take, List.map_drop]
theorem take_more {α : Type} : ∀ {l : List α} {i : Nat} {x : α}, l[i]? = some x → l.take (i + 1) = l.take i ++ [x]
  | [], i, x, h => by simp at h
  | a :: l, 0, x, h => by
    have e : a = x := Option.some.inj h
    subst e
    rfl
  | a :: l, i + 1, x, h => by
    have ih := take_more (l := l) (i := i) (x := x) h
    show a :: l.take (i + 1) = a :: l.take i ++ [x]
    rw [ih]
    rfl
theorem all_any (g : Nat) : ∀ l : List Sw95.Part, (l.map fun (y : Sw95.Part) => decide ((y.grade : Int) ≤ (g : Int))).all id = !(l.any fun y => decide (g < y.grade))
  | [] => rfl
  | y :: l => by
    rw [List.map_cons, List.all_cons, List.any_cons, all_any g l, Bool.not_or]
    congr 1
    show decide ((y.grade : Int) ≤ (g : Int)) = !decide (g < y.grade)
    by_cases h : g < y.grade
    · rw [decide_eq_true h, decide_eq_false (by omega)]
      rfl
    · rw [decide_eq_false h, decide_eq_true (by omega)]
      rfl
theorem line_of {n : Nat} (h : n ≤ 10000000) : n < sizeLine := by
  rw [sizeLine_eq]
  omega
theorem yesT {σ : L2.St} {H : Hp} {Q : Bool → Hp → Prop} (h : Q true H) : tYes σ H Q := h
theorem Same.new {H : Hp} {a : Addr} {o : HO} (h : H a = none) : Same H (upd H a o) := fun b u e => by
  rw [upd_ne (ne_of_none e h)]
  exact e
section
variable {P : Program} {w : World} {K : PySem.W.Frag} {mg : Str → Option Value} {base : Heap} {c : Cs}
/-! ### may_be_cut -/
def spMayCut (c : Cs) : Sp := fun vs H Q _ => ∃ (l ka : Addr) (ps : List Sw95.Part) (z : Sw95.Kind) (x : Nat), vs = [.ref l, .ref ka, .int x] ∧ PartsAt c H l ps ∧ ps.length ≤ 40 ∧ KindAt c H ka z ∧ 1 ≤ z.long ∧
  ∀ H', Same H H' → Q (.bl (Sw95.worth z (ps.drop x)).isSome) H'
theorem scMayCut : FnScope ["parts", "kind", "place", "end", "part"] ["parts", "kind", "place"] (defScope sMayCut) := ⟨rfl, rfl, rfl, by decide +kernel, rfl, by decide +kernel, by decide +kernel⟩
theorem ok_mayCut {f : Addr} {fd : FuncData} (F : Fun K "may_be_cut" "may_be_cut" sMayCut f fd) (T : Txt K mg c) : FnOk P w K mg base CX0 1 f fd ["parts", "kind", "place"] (spMayCut c) := by
  refine F.ok scMayCut (fun vs H Q E h => ?_) (fun cdv A outer s H vs Q E hr h => ?_)
  · obtain ⟨l, ka, ps, z, x, rfl, _⟩ := h
    rfl
  · obtain ⟨l, ka, ps, z, x, rfl, ⟨as, hl, ho⟩, h40, ⟨dk, hk⟩, h1, k⟩ := h
    refine ⟨_, pss_cons (ps_set (i := 3) scMayCut.nd rfl (Or.inl rfl) (pe_op op_add (pv 2) (pe_fld (pv 1) rfl)))
      (pss_cons (ps_if (pt_cmpR op_gt (pv 3) (pe_callB call_len_seq (by rfl) T.len PySem.boot_len (pa_cons (pv 0) pa_nil)) (nomark _)) (pss_one (ps_ret pe_bl)) pss_nil)
      (pss_cons (ps_if (pt_cmpR op_lt (pe_fld (pe_ix ix_list (pv 0) (pe_op op_sub (pv 3) pe_int) (fun _ _ => rfl)) rfl) (pe_fld (pv 1) rfl) (nomark _)) (pss_one (ps_ret pe_bl)) pss_nil)
      (pss_one (ps_ret (pe_callB (cr_all rfl) (by rfl) T.all (by decide +kernel) (pa_cons
        (pe_lc (own := [("part", 4)]) (g := gName 4) (tt := tYes) (te := tOp (rI0 fun i j => .bl (decide (i ≤ j))) (tFld K (tVar 4) "grade") (tFld K (tVar 1) "grade")) rfl scMayCut.nd (pi_list (pe_slice sl_list (pv 0) (po_some (pv 2)) (po_some (pv 3))))
          (blkOk_by (N := ["parts", "kind", "place", "end", "part"]) (sc := defScope sMayCut) (by decide +kernel)) (fun _ _ _ _ _ => pg_name (i := 4) scMayCut.nd rfl (Or.inl rfl)) (fun _ _ _ _ _ => pts_nil)
          (fun _ _ _ _ _ => by exact pe_cmpR op_le (pe_fld (pv 4) rfl) (pe_fld (pv 1) rfl) (nomark _))) pa_nil)))))), ?_⟩
    have hlen : (as.map V.ref).length = ps.length := by rw [List.length_map, ho.1]
    have kf : Sw95.worth z (ps.drop x) = none → ∀ H', Same H H' → Q (.bl false) H' := fun e H' s => by
      have q := k H' s
      rw [e] at q
      exact q
    refine ⟨_, rfl, _, rfl, ka, c.K, dk, _, _, rfl, hk, T.clK, T.kL, lk_0, _, _, rfl, rfl, ?_⟩
    refine ⟨_, rfl, _, rfl, l, _, rfl, .inl (SqL.of hl), _, _, rfl, rfl, _, rfl, ?_⟩
    by_cases hle : x + z.long ≤ ps.length
    · refine ifF (decide_eq_false (by rw [hlen]; omega)) ?_
      have hlt : x + z.long - 1 < ps.length := by omega
      have hp : ps[x + z.long - 1]? = some ps[x + z.long - 1] := List.getElem?_eq_getElem hlt
      generalize ps[x + z.long - 1] = p at hp
      obtain ⟨a, ha, dx, hx⟩ := ho.get hp
      have a1 : atI (as.map V.ref) ((x : Int) + (z.long : Int) - 1) = some (.ref a) := by
        rw [show (x : Int) + (z.long : Int) - 1 = ((x + z.long - 1 : Nat) : Int) by omega]
        refine atI_nat ?_
        rw [List.getElem?_map, ha]
        rfl
      refine ⟨_, rfl, _, rfl, _, _, rfl, rfl, l, _, _, _, rfl, rfl, SqL.of hl, a1, a, c.P, dx, _, _, rfl, hx, T.clP, T.pT, lk_0, _, rfl, ka, c.K, dk, _, _, rfl, hk, T.clK, T.kT, lk_1, _, _, rfl, rfl, _, rfl, ?_⟩
      have hw := worth_long h1 hp
      by_cases ht : p.thick < z.thick
      · refine ifT (decide_eq_true (by omega)) ?_
        exact kf (by rw [hw, if_pos (.inl ht)]) H (Same.refl H)
      · refine ifF (decide_eq_false (by omega)) ?_
        have cs := cut_seg as x z.long (by rw [ho.1]; exact hle)
        have hseg := ho.seg x z.long
        refine ⟨_, rfl, _, rfl, _, rfl, _, rfl, _, rfl, l, _, rfl, SqL.of hl, fun sl hsl => ?_⟩
        refine ⟨sl, rfl, ⟨_, SqL.of upd_same⟩, fun D hD => ?_⟩
        have hslD : sl ≠ D := ne_of_none upd_same hD
        have hD0 : H D = none := by rw [upd_ne hslD.symm] at hD; exact hD
        refine lc_list (K := K) (a := sl) (xs := cutV (as.map V.ref) (some (x : Int)) (some ((x : Int) + (z.long : Int))))
          (fun i H' => H' = upd (upd H sl (.lst (cutV (as.map V.ref) (some (x : Int)) (some ((x : Int) + (z.long : Int)))))) D (.lst (((((ps.drop x).take z.long).take i).map fun (y : Sw95.Part) => decide ((y.grade : Int) ≤ (z.grade : Int))).map V.bl)))
          rfl (fun i H' _ e => by rw [e]; exact SqL.of (by rw [upd_ne hslD, upd_same])) ?_ ?_
        · rintro i y H' hi rfl
          rw [cs] at hi
          obtain ⟨b, hb, rfl⟩ := map_at hi
          obtain ⟨r, hr, dr, hrx⟩ := hseg.at hb
          refine ⟨rfl, yesT (ifT rfl ?_)⟩
          have nb : b ≠ sl := ne_of_none hrx hsl
          have nbD : b ≠ D := ne_of_none hrx hD0
          have nk : ka ≠ sl := ne_of_none hk hsl
          have nkD : ka ≠ D := ne_of_none hk hD0
          refine ⟨_, rfl, b, c.P, dr, _, _, rfl, (by rw [upd_ne nbD, upd_ne nb]; exact hrx), T.clP, T.pG, lk_1, _, rfl, ka, c.K, dk, _, _, rfl, (by rw [upd_ne nkD, upd_ne nk]; exact hk), T.clK, T.kG, lk_2, _, _, rfl, rfl, _, upd_same, ?_, ?_⟩
          · rw [List.length_map, List.length_map, List.length_take, List.length_take]
            exact line_of (by have := h1; have := hle; omega)
          · show upd (upd _ D _) D _ = _
            rw [upd_upd, take_more hr, List.map_append, List.map_append]
            rfl
        · rintro H' rfl
          rw [cs, List.length_map, hseg.1, List.take_length]
          refine ⟨D, _, rfl, SqL.of upd_same, ?_⟩
          have kv : ∀ b, (Sw95.worth z (ps.drop x)).isSome = b → ∀ H', Same H H' → Q (.bl b) H' := fun b e H' s => by
            have q := k H' s
            rw [e] at q
            exact q
          refine kv _ ?_ _ ((Same.new hsl).trans (Same.new (by rw [upd_ne hslD.symm]; exact hD0)))
          rw [hw, all_any]
          by_cases hg : (((ps.drop x).take z.long).any fun y => decide (z.grade < y.grade)) = true
          · rw [if_pos (.inr hg), hg]
            rfl
          · rw [if_neg (by rintro (h | h); exact ht h; exact hg h)]
            rw [Bool.not_eq_true] at hg
            rw [hg]
            rfl
    · refine ifT (decide_eq_true (by rw [hlen]; omega)) ?_
      exact kf (worth_short h1 (by omega)) H (Same.refl H)
end
end LC
namespace LC
open PySem PySem.Spec PyProof.Rows L2
/-- a def that may be called by its name -/
def Cal (P : Program) (w : World) (K : PySem.W.Frag) (mg : Str → Option Value) (base : Heap) (k : Nat) (x : Str) (ps : List Str) (sp : Sp) : Prop :=
  ∃ (f : Addr) (fd : FuncData), mg x = some (.ref f) ∧ PySem.W.keepIn K (.ref f) = true ∧ Binds K fd ps [] ∧ FnOk P w K mg base CX0 k f fd ps sp
theorem pe_cl {X : Cx} {k k' : Nat} {x : Str} {ps : List Str} {sp : Sp} {e : Expr} {es : List Expr} {t : TA} {p pos : Pos} (G : Cal X.prog X.w X.K X.mg X.base k x ps sp) (hr : Room k' X.A) (hk : k ≤ k') (hg : Gl X x)
    (args : PA X (e :: es) t) (hdb : (x == ("__debug__" : Str)) = false := by decide)
    (one : starEach (e :: es) X.env = (false, eval e X.env) :: starEach es X.env := by rfl)
    (plain : (backTo pos (starEach es X.env)).any (·.1) = false := by rfl) :
    PE X (.Call (.Name x p) (e :: es) [] pos) (tCall sp [] E0 t) := by
  obtain ⟨f, fd, h1, h2, h3, h4⟩ := G
  exact pe_call h4 (hr.mono hk) hg h1 h2 h3 .nil pass0 args hdb one plain
/-- a class that may be called by its name -/
def Mkr (P : Program) (w : World) (K : PySem.W.Frag) (mg : Str → Option Value) (base : Heap) (x : Str) (C : Addr) (ps : List Str) (sp : Sp) : Prop :=
  ∃ (f : Addr) (fd : FuncData), mg x = some (.ref C) ∧ Mk K C f ∧ Binds K fd ps [] ∧ FnOk P w K mg base CX0 1 f fd ps sp
theorem pe_mk {X : Cx} {k' : Nat} {x : Str} {C : Addr} {ps : List Str} {sp : Sp} {e : Expr} {es : List Expr} {t : TA} {p pos : Pos} (G : Mkr X.prog X.w X.K X.mg X.base x C ps sp) (hr : Room k' X.A) (hk : 2 ≤ k') (hg : Gl X x)
    (args : PA X (e :: es) t) (hdb : (x == ("__debug__" : Str)) = false := by decide)
    (one : starEach (e :: es) X.env = (false, eval e X.env) :: starEach es X.env := by rfl)
    (plain : (backTo pos (starEach es X.env)).any (·.1) = false := by rfl) :
    PE X (.Call (.Name x p) (e :: es) [] pos) (tMake C sp [] E0 t) := by
  obtain ⟨f, fd, h1, h2, h3, h4⟩ := G
  exact pe_make h2 h4 (hr.mono hk) hg h1 h3 .nil pass0 args hdb one plain
/-- behind a new instance -/
theorem made {C : Addr} {n : Nat} {fs : List V → List (Str × V)} {H : Hp} {x dx : Addr} {us : List V} {Q : VK} {E : XK} (nx : H x = none) (nd : H dx = none) (hl : us.length = n) (k : ∀ (H' : Hp), Same H H' → At C H' x (fs us) → Q .non H') :
    spInit C n fs (.ref x :: us) (upd (upd H dx (.own x)) x (.ins C dx [])) Q E :=
  ⟨x, dx, us, rfl, hl, upd_same, fun H' h' kp => k H' (Same.made nx nd kp) ⟨dx, h'⟩⟩
/-- kinds and parts as they stand in a yard -/
def KOk (zs : List Sw95.Kind) : Prop := zs.length ≤ 3 ∧ ∀ z ∈ zs, 1 ≤ z.long ∧ z.long ≤ 40 ∧ z.price ≤ 1000
def POk (ps : List Sw95.Part) : Prop := ps.length ≤ 40 ∧ ∀ p ∈ ps, p.thick ≤ 100
def LogAt (c : Cs) (x : Nat) (H : Hp) (a : Addr) (y : Nat × Sw95.Kind × Nat) : Prop := At c.L H a (logF x ((x : Int) + (y.2.1.long : Int)) y.1 y.2.2)
theorem LogAt.same {c : Cs} {x : Nat} {H H' : Hp} {a : Addr} {y : Nat × Sw95.Kind × Nat} (h : LogAt c x H a y) (s : Same H H') : LogAt c x H' a y := At.same h s
/-- a list of one's own, grown by one: all else stands -/
theorem Same.grow {H H' : Hp} {a : Addr} {o : HO} (s : Same H H') (h : H a = none) : Same H (upd H' a o) := fun b u e => by
  rw [upd_ne (ne_of_none e h)]
  exact s b u e
theorem KOk.at {zs : List Sw95.Kind} (h : KOk zs) {i : Nat} {z : Sw95.Kind} (hz : zs[i]? = some z) : 1 ≤ z.long ∧ z.long ≤ 40 ∧ z.price ≤ 1000 := h.2 z (List.mem_of_getElem? hz)
theorem At.upd {C : Addr} {H : Hp} {a l : Addr} {o : HO} {xs : List V} {fs : List (Str × V)} (h : At C H a fs) (hl : H l = some (.lst xs)) : At C (upd H l o) a fs := by
  obtain ⟨dx, e⟩ := h
  refine ⟨dx, ?_⟩
  rw [upd_ne (ne_of e hl (by intro q; cases q))]
  exact e
theorem ref_at {as : List Addr} {i : Nat} {a : Addr} (h : as[i]? = some a) : atI (as.map V.ref) (i : Int) = some (.ref a) := by
  refine atI_nat ?_
  rw [List.getElem?_map, h]
  rfl
section
variable {P : Program} {w : World} {K : PySem.W.Frag} {mg : Str → Option Value} {base : Heap} {c : Cs}
/-! ### stock_steps -/
def spSteps : Sp := fun vs H Q _ => ∃ (o : Addr) (os : List Nat), vs = [.ref o] ∧ IntsAt H o os ∧ os.length ≤ 3 ∧ (∀ m ∈ os, m ≤ 5) ∧ ∀ (H' : Hp) (r : Addr), Same H H' → H r = none → IntsAt H' r (stepsL os) → Q (.ref r) H'
theorem scSteps : FnScope ["ordered", "steps", "many"] ["ordered"] (defScope sSteps) := ⟨rfl, rfl, rfl, by decide +kernel, rfl, by decide +kernel, by decide +kernel⟩
theorem stepsL_last {os : List Nat} {i : Nat} (h : i ≤ os.length) : ∃ pre, stepsL (os.take i) = pre ++ [stepAt os i] := by
  refine ⟨(List.range i).map (stepAt (os.take i)), ?_⟩
  unfold stepsL
  rw [List.length_take, show min i os.length = i by omega, List.range_succ, List.map_append, List.map_singleton, stepAt_take os i i (Nat.le_refl _)]
theorem ok_steps {f : Addr} {fd : FuncData} (F : Fun K "stock_steps" "stock_steps" sSteps f fd) : FnOk P w K mg base CX0 1 f fd ["ordered"] spSteps := by
  refine F.ok scSteps (fun vs H Q E h => ?_) (fun cdv A outer s H vs Q E hr h => ?_)
  · obtain ⟨o, os, rfl, _⟩ := h
    rfl
  · obtain ⟨o, os, rfl, ho, h3, h5, k⟩ := h
    refine ⟨_, pss_cons (ps_set (i := 1) scSteps.nd rfl (Or.inl rfl) (pe_lst (pa_cons pe_int pa_nil)))
      (pss_cons (ps_for PassesOwn.never rfl (pi_list (pv 0)) (pg_name (i := 2) scSteps.nd rfl (Or.inl rfl))
        (pss_one (ps_expr (pe_bm PySem.F.plainAttrs_list PySem.F.slot_list_append PySem.F.type_list_append mt_append (pv 1) (pa_cons (pe_op op_mul (pe_ix ix_list (pv 1) (pe_un un_neg pe_int) (fun _ _ => rfl)) (pe_op op_add (pv 2) pe_int)) pa_nil)))))
      (pss_one (ps_ret (pv 1)))), ?_⟩
    refine ⟨(by show 1 ≤ sizeLine; decide), fun r hr0 => ?_⟩
    have nor : o ≠ r := ne_of_none ho hr0
    refine ⟨_, rfl, o, rfl, ⟨_, SqL.of (by rw [upd_ne nor]; exact ho)⟩, for_list (K := K) (a := o) (xs := os.map fun (n : Nat) => V.int (n : Int)) (fun i σ H' => ∃ v : Option V, σ = [some (.ref o), some (.ref r), v] ∧ H' = upd H r (.lst ((stepsL (os.take i)).map fun (n : Nat) => V.int (n : Int))))
      ⟨none, rfl, rfl⟩ (fun i σ H' _ ⟨_, _, e⟩ => by rw [e]; exact SqL.of (by rw [upd_ne nor]; exact ho)) ?_ ?_⟩
    · rintro i y σ H' hi ⟨v, rfl, rfl⟩
      obtain ⟨m, hm, rfl⟩ := map_at hi
      have hlt : i < os.length := (List.getElem?_eq_some_iff.mp hm).1
      obtain ⟨pre, ep⟩ := stepsL_last (os := os) (i := i) (Nat.le_of_lt hlt)
      have a1 : atI ((stepsL (os.take i)).map fun (n : Nat) => V.int (n : Int)) (-1) = some (V.int (stepAt os i : Nat)) := by
        rw [ep, List.map_append]
        exact atI_last _ _
      have b1 : stepAt os i ≤ 6 ^ 3 := Nat.le_trans (stepAt_le os i h5) (Nat.pow_le_pow_right (by decide) h3)
      refine ⟨_, rfl, .inl ⟨rfl, _, SqL.of upd_same⟩, _, rfl, _, rfl, r, _, _, _, rfl, rfl, SqL.of upd_same, a1, _, rfl, _, _, rfl, rfl, _, _, rfl, rfl, .inl ⟨by omega, by omega⟩, ?_⟩
      refine ⟨r, _, _, rfl, rfl, upd_same, ?_, _, rfl, ?_⟩
      · rw [List.length_map, stepsL_len, List.length_take]
        exact line_of (by omega)
      · rw [upd_upd, stepsL_take hm, List.map_append]
        rfl
    · rintro σ H' ⟨v, rfl, rfl⟩
      rw [List.length_map, List.take_length]
      exact ⟨_, rfl, k _ r (Same.new hr0) hr0 upd_same⟩
/-! ### cut_log -/
def spCutLog (c : Cs) : Sp := fun vs H Q _ => ∃ (l kl : Addr) (ps : List Sw95.Part) (zs : List Sw95.Kind) (z : Sw95.Kind) (j x v : Nat), vs = [.ref l, .ref kl, .int j, .int x] ∧ PartsAt c H l ps ∧ POk ps ∧ KindsAt c H kl zs ∧ KOk zs ∧ zs[j]? = some z ∧ Sw95.worth z (ps.drop x) = some v ∧
  ∀ (H' : Hp) (r : Addr), Same H H' → H r = none → LogAt c x H' r (j, z, v) → Q (.ref r) H'
theorem scCutLog : FnScope ["parts", "kinds", "number", "place", "kind", "end", "thickness"] ["parts", "kinds", "number", "place"] (defScope sCutLog) := ⟨rfl, rfl, rfl, by decide +kernel, rfl, by decide +kernel, by decide +kernel⟩
theorem small_mul {a b : Nat} {A B : Nat} (ha : a ≤ A) (hb : b ≤ B) : a * b ≤ A * B := Nat.mul_le_mul ha hb
theorem ok_cutLog {f : Addr} {fd : FuncData} (F : Fun K "cut_log" "cut_log" sCutLog f fd) (T : Txt K mg c)
    (GL : Mkr P w K mg base "Log" c.L ["self", "place", "end", "number", "worth"] (spInit c.L 4 (fs4 "place" "end" "number" "worth"))) : FnOk P w K mg base CX0 3 f fd ["parts", "kinds", "number", "place"] (spCutLog c) := by
  refine F.ok scCutLog (fun vs H Q E h => ?_) (fun cdv A outer s H vs Q E hr h => ?_)
  · obtain ⟨l, kl, ps, zs, z, j, x, v, rfl, _⟩ := h
    rfl
  · obtain ⟨l, kl, ps, zs, z, j, x, v, rfl, ⟨as, hl, ho⟩, pok, ⟨ks, hkl, hko⟩, kok, hz, hw, k⟩ := h
    obtain ⟨h1, h40, hpr⟩ := kok.at hz
    obtain ⟨p, hp, hle, ev⟩ := worth_val h1 hw
    obtain ⟨a, ha, dx, hx⟩ := ho.get hp
    obtain ⟨ka, hka, dk, hk⟩ := hko.get hz
    have ht := pok.2 p (List.mem_of_getElem? hp)
    refine ⟨_, pss_cons (ps_set (i := 4) scCutLog.nd rfl (Or.inl rfl) (pe_ix ix_list (pv 1) (pv 2) (fun _ _ => rfl)))
      (pss_cons (ps_set (i := 5) scCutLog.nd rfl (Or.inl rfl) (pe_op op_add (pv 3) (pe_fld (pv 4) rfl)))
      (pss_cons (ps_set (i := 6) scCutLog.nd rfl (Or.inl rfl) (pe_fld (pe_ix ix_list (pv 0) (pe_op op_sub (pv 5) pe_int) (fun _ _ => rfl)) rfl))
      (pss_one (ps_ret (pe_mk GL hr (by decide) (by rfl) (pa_cons (pv 3) (pa_cons (pv 5) (pa_cons (pv 2) (pa_cons (pe_op op_mul (pe_op op_mul (pe_op op_mul (pe_fld (pv 4) rfl) (pe_fld (pv 4) rfl)) (pv 6)) (pv 6)) pa_nil))))))))), ?_⟩
    have a1 : atI (as.map V.ref) ((x : Int) + (z.long : Int) - 1) = some (.ref a) := by
      rw [show (x : Int) + (z.long : Int) - 1 = ((x + z.long - 1 : Nat) : Int) by omega]
      exact ref_at ha
    refine ⟨_, rfl, _, rfl, kl, _, _, _, rfl, rfl, SqL.of hkl, ref_at hka, ?_⟩
    refine ⟨_, rfl, _, rfl, ka, c.K, dk, _, _, rfl, hk, T.clK, T.kL, lk_0, _, _, rfl, rfl, ?_⟩
    refine ⟨_, rfl, _, rfl, _, _, rfl, rfl, l, _, _, _, rfl, rfl, SqL.of hl, a1, a, c.P, dx, _, _, rfl, hx, T.clP, T.pT, lk_0, ?_⟩
    have m1 : z.price * z.long ≤ 1000 * 40 := small_mul hpr h40
    have m2 : z.price * z.long * p.thick ≤ 1000 * 40 * 100 := small_mul m1 ht
    refine ⟨_, rfl, _, rfl, _, rfl, _, rfl, ka, c.K, dk, _, _, rfl, hk, T.clK, T.kP, lk_3, _, rfl, ka, c.K, dk, _, _, rfl, hk, T.clK, T.kL, lk_0, _, _, rfl, rfl, .inl ⟨by omega, by omega⟩, ?_⟩
    refine ⟨_, rfl, _, _, rfl, rfl, .inr ⟨by omega, by omega⟩, ?_⟩
    refine ⟨_, rfl, _, _, rfl, rfl, .inr ⟨by omega, by omega⟩, ?_⟩
    have e : (z.price : Int) * (z.long : Int) * (p.thick : Int) * (p.thick : Int) = (v : Int) := by
      rw [ev]
      push_cast
      rw [Int.mul_assoc]
    intro y dy ny nd _
    refine made ny nd rfl fun H3 s3 hy => ⟨rfl, k H3 y s3 ny ?_⟩
    show At c.L H3 y (logF x ((x : Int) + (z.long : Int)) j v)
    rw [← e]
    exact hy
/-! ### logs_from -/
def spLogsFrom (c : Cs) : Sp := fun vs H Q _ => ∃ (l kl : Addr) (ps : List Sw95.Part) (zs : List Sw95.Kind) (x : Nat), vs = [.ref l, .ref kl, .int x] ∧ PartsAt c H l ps ∧ POk ps ∧ KindsAt c H kl zs ∧ KOk zs ∧
  ∀ (H' : Hp) (r : Addr), Same H H' → H r = none → LstAt (LogAt c x) H' r (logsOf zs (ps.drop x)) → Q (.ref r) H'
theorem scLogsFrom : FnScope ["parts", "kinds", "place", "logs", "number"] ["parts", "kinds", "place"] (defScope sLogsFrom) := ⟨rfl, rfl, rfl, by decide +kernel, rfl, by decide +kernel, by decide +kernel⟩
theorem rev_at {n i : Nat} (h : i < n) : (List.range n).reverse[i]? = some (n - 1 - i) := by
  rw [List.getElem?_reverse (by rw [List.length_range]; exact h), List.length_range, List.getElem?_range (by omega)]
theorem ok_logsFrom {f : Addr} {fd : FuncData} (F : Fun K "logs_from" "logs_from" sLogsFrom f fd) (T : Txt K mg c) (GM : Cal P w K mg base 1 "may_be_cut" ["parts", "kind", "place"] (spMayCut c)) (GW : Cal P w K mg base 3 "cut_log" ["parts", "kinds", "number", "place"] (spCutLog c)) : FnOk P w K mg base CX0 4 f fd ["parts", "kinds", "place"] (spLogsFrom c) := by
  refine F.ok scLogsFrom (fun vs H Q E h => ?_) (fun cdv A outer s H vs Q E hr h => ?_)
  · obtain ⟨l, kl, ps, zs, x, rfl, _⟩ := h
    rfl
  · obtain ⟨l, kl, ps, zs, x, rfl, hP, pok, hK, kok, k⟩ := h
    refine ⟨_, pss_cons (ps_set (i := 3) scLogsFrom.nd rfl (Or.inl rfl) (pe_lst pa_nil))
      (pss_cons (ps_for PassesOwn.never rfl (pi_range3 rfl T.range (pa_cons (pe_op op_sub (pe_callB call_len_seq (by rfl) T.len PySem.boot_len (pa_cons (pv 1) pa_nil)) pe_int) (pa_cons (pe_un un_neg pe_int) (pa_cons (pe_un un_neg pe_int) pa_nil)))) (pg_name (i := 4) scLogsFrom.nd rfl (Or.inl rfl))
        (pss_one (ps_if (pt_val (pe_cl GM hr (by decide) (by rfl) (pa_cons (pv 0) (pa_cons (pe_ix ix_list (pv 1) (pv 4) (fun _ _ => rfl)) (pa_cons (pv 2) pa_nil)))))
          (pss_one (ps_expr (pe_bm PySem.F.plainAttrs_list PySem.F.slot_list_append PySem.F.type_list_append mt_append (pv 3) (pa_cons (pe_cl GW hr (by decide) (by rfl) (pa_cons (pv 0) (pa_cons (pv 1) (pa_cons (pv 4) (pa_cons (pv 2) pa_nil))))) pa_nil)))) pss_nil)))
      (pss_one (ps_ret (pv 3)))), ?_⟩
    refine ⟨Nat.zero_le _, fun r hr0 => ?_⟩
    obtain ⟨ka, hkl, hko⟩ := id hK
    have nkr : kl ≠ r := ne_of_none hkl hr0
    have hlen : ((ka.map V.ref).length : Int) = (zs.length : Int) := by rw [List.length_map, hko.1]
    have h3 := kok.1
    refine ⟨_, rfl, kl, _, rfl, .inl (SqL.of (by rw [upd_ne nkr]; exact hkl)), _, _, rfl, rfl, _, rfl, _, rfl, (zs.length : Int) - 1, -1, -1, zs.length, (by rw [hlen]), ?_, ?_⟩
    · have e : ((zs.length : Int) - 1 - (-1)).toNat = zs.length := by omega
      have q := RgC.neg (i := (zs.length : Int) - 1) (j := -1) (by omega) (by omega) (by decide) (by decide)
      rw [e] at q
      exact q
    · refine for_rangeC (lo := (zs.length : Int) - 1) (c := -1) (n := zs.length) (fun i σ H' => ∃ v4 : Option V, σ = [some (.ref l), some (.ref kl), some (.int x), some (.ref r), v4] ∧ Same H H' ∧
          LstAt (LogAt c x) H' r (((List.range zs.length).reverse.take i).filterMap (lg zs (ps.drop x)))) ⟨none, rfl, Same.new hr0, [], upd_same, Objs.nil⟩ ?_ ?_
      · rintro i σ H' hi ⟨v4, rfl, s5, as, hR, hO⟩
        have ei : (zs.length : Int) - 1 + (i : Nat) * (-1) = ((zs.length - 1 - i : Nat) : Int) := by omega
        have hj : zs.length - 1 - i < zs.length := by omega
        have hz : zs[zs.length - 1 - i]? = some zs[zs.length - 1 - i] := List.getElem?_eq_getElem hj
        generalize zs[zs.length - 1 - i] = z at hz
        have et := take_more (rev_at hi)
        generalize zs.length - 1 - i = j at hz hj et ei
        rw [ei, et, List.filterMap_append]
        obtain ⟨kz, hkz, dk, hk⟩ := hko.get hz
        obtain ⟨hl1, hl2, hl3⟩ := kok.at hz
        refine ⟨_, rfl, _, rfl, _, rfl, kl, _, _, _, rfl, rfl, SqL.of (s5 _ _ hkl), ref_at hkz, _, rfl, l, kz, ps, z, x, rfl, hP.same s5, pok.1, ⟨dk, s5 _ _ hk⟩, hl1, fun H2 s2 => ⟨_, rfl, ?_⟩⟩
        have s6 : Same H H2 := s5.trans s2
        have hR2 : H2 r = some (.lst (as.map V.ref)) := s2 _ _ hR
        have hO2 : Objs (LogAt c x) H2 as _ := hO.mono fun a y q => q.same s2
        cases hw : Sw95.worth z (ps.drop x) with
        | none =>
          refine ifF rfl ?_
          have e0 : List.filterMap (lg zs (ps.drop x)) [j] = [] := by
            rw [List.filterMap_cons_none]
            · rfl
            · unfold lg
              rw [hz]
              dsimp only
              rw [hw]
              rfl
          refine ⟨_, rfl, s6, as, hR2, ?_⟩
          rw [e0, List.append_nil]
          exact hO2
        | some v =>
          refine ifT rfl ?_
          have e0 : List.filterMap (lg zs (ps.drop x)) [j] = [(j, z, v)] := by
            rw [List.filterMap_cons_some (b := (j, z, v))]
            · rfl
            · unfold lg
              rw [hz]
              dsimp only
              rw [hw]
              rfl
          refine ⟨_, rfl, .inl ⟨rfl, _, SqL.of hR2⟩, _, rfl, _, rfl, _, rfl, _, rfl, l, kl, ps, zs, z, j, x, v, rfl, hP.same s6, pok, hK.same s6, kok, hz, hw, fun H3 y s3 ny hy => ?_⟩
          refine ⟨r, _, _, rfl, rfl, s3 _ _ hR2, ?_, ?_⟩
          · have q : (List.filterMap (lg zs (ps.drop x)) ((List.range zs.length).reverse.take i)).length ≤ 3 := by
              refine Nat.le_trans (List.length_filterMap_le _ _) ?_
              rw [List.length_take]
              omega
            rw [List.length_map, hO.1]
            exact line_of (by omega)
          · refine ⟨_, rfl, Same.grow (s6.trans s3) hr0, as ++ [y], by rw [upd_same, List.map_append]; rfl, ?_⟩
            rw [e0]
            have hR3 := s3 _ _ hR2
            refine Objs.snoc ((hO2.mono fun a y q => q.same s3).mono fun a y q => At.upd q hR3) ?_
            exact At.upd hy hR3
      · rintro σ H' ⟨v4, rfl, s5, hL⟩
        refine ⟨_, rfl, k _ r s5 hr0 ?_⟩
        have e : (List.range zs.length).reverse.take zs.length = (List.range zs.length).reverse := List.take_of_length_le (by simp)
        rw [e] at hL
        exact hL
end
end LC
namespace LC
open PySem PySem.Spec PyProof.Rows L2
/-! ### outlooks in the heap -/
def LogV (c : Cs) (ks : List Sw95.Kind) (x : Nat) (H : Hp) : Option Nat → V → Prop
  | none, lg => lg = .non
  | some k, lg => ∃ (la : Addr) (z : Sw95.Kind) (v : Int), lg = .ref la ∧ ks[k]? = some z ∧ At c.L H la (logF x ((x : Int) + (z.long : Int)) k v)
def OutAt (c : Cs) (ks : List Sw95.Kind) (x : Nat) (H : Hp) (a : Addr) (b : Sw95.Best) : Prop := ∃ lg : V, At c.O H a (outF b.value b.many lg) ∧ LogV c ks x H (here x b.cutting) lg
theorem LogV.same {c : Cs} {ks : List Sw95.Kind} {x : Nat} {H H' : Hp} {o : Option Nat} {lg : V} (h : LogV c ks x H o lg) (s : Same H H') : LogV c ks x H' o lg := by
  cases o with
  | none => exact h
  | some k =>
    obtain ⟨la, z, v, h1, h2, h3⟩ := h
    exact ⟨la, z, v, h1, h2, h3.same s⟩
theorem OutAt.same {c : Cs} {ks : List Sw95.Kind} {x : Nat} {H H' : Hp} {a : Addr} {b : Sw95.Best} (h : OutAt c ks x H a b) (s : Same H H') : OutAt c ks x H' a b := by
  obtain ⟨lg, h1, h2⟩ := h
  exact ⟨lg, h1.same s, h2.same s⟩
theorem LogV.upd {c : Cs} {ks : List Sw95.Kind} {x : Nat} {H : Hp} {o : Option Nat} {lg : V} {l : Addr} {u : HO} {xs : List V} (h : LogV c ks x H o lg) (hl : H l = some (.lst xs)) : LogV c ks x (L2.upd H l u) o lg := by
  cases o with
  | none => exact h
  | some k =>
    obtain ⟨la, z, v, h1, h2, h3⟩ := h
    exact ⟨la, z, v, h1, h2, At.upd h3 hl⟩
theorem OutAt.upd {c : Cs} {ks : List Sw95.Kind} {x : Nat} {H : Hp} {a : Addr} {b : Sw95.Best} {l : Addr} {u : HO} {xs : List V} (h : OutAt c ks x H a b) (hl : H l = some (.lst xs)) : OutAt c ks x (L2.upd H l u) a b := by
  obtain ⟨lg, h1, h2⟩ := h
  exact ⟨lg, At.upd h1 hl, LogV.upd h2 hl⟩
/-- what the table holds at a place, stock by stock -/
def rowOf (ks : List Sw95.Kind) (ps : List Sw95.Part) (os : List Nat) (j : Nat) : List Sw95.Best := (List.range (stepAt os os.length)).map fun n => bestAt ks j (ps.drop j) (digits os n)
theorem rowOf_at {ks : List Sw95.Kind} {ps : List Sw95.Part} {os : List Nat} {j n : Nat} (h : n < stepAt os os.length) : (rowOf ks ps os j)[n]? = some (bestAt ks j (ps.drop j) (digits os n)) := by
  unfold rowOf
  rw [List.getElem?_map, List.getElem?_range h]
  rfl
abbrev RowAt (c : Cs) (ks : List Sw95.Kind) (ps : List Sw95.Part) (os : List Nat) (j : Nat) (H : Hp) (ra : Addr) : Prop := LstAt (OutAt c ks j) H ra (rowOf ks ps os j)
theorem RowAt.same {c : Cs} {ks : List Sw95.Kind} {ps : List Sw95.Part} {os : List Nat} {j : Nat} {H H' : Hp} {ra : Addr} (h : RowAt c ks ps os j H ra) (s : Same H H') : RowAt c ks ps os j H' ra := LstAt.mono h s fun _ _ r => r.same s
/-- the table from a place on -/
def TblAt (c : Cs) (ks : List Sw95.Kind) (ps : List Sw95.Part) (os : List Nat) (H : Hp) (t : Addr) (lo : Nat) : Prop := ∃ rs : List Addr, H t = some (.lst (rs.map V.ref)) ∧ rs.length = ps.length + 1 ∧ ∀ (j : Nat) (ra : Addr), lo ≤ j → rs[j]? = some ra → ra ≠ t ∧ RowAt c ks ps os j H ra
theorem TblAt.same {c : Cs} {ks : List Sw95.Kind} {ps : List Sw95.Part} {os : List Nat} {H H' : Hp} {t : Addr} {lo : Nat} (h : TblAt c ks ps os H t lo) (s : Same H H') : TblAt c ks ps os H' t lo := by
  obtain ⟨rs, h1, h2, h3⟩ := h
  exact ⟨rs, s _ _ h1, h2, fun j ra a b => ⟨(h3 j ra a b).1, (h3 j ra a b).2.same s⟩⟩
/-- one outlook of it -/
theorem TblAt.get {c : Cs} {ks : List Sw95.Kind} {ps : List Sw95.Part} {os : List Nat} {H : Hp} {t : Addr} {lo : Nat} (h : TblAt c ks ps os H t lo) {j n : Nat} (h1 : lo ≤ j) (h2 : j ≤ ps.length) (h3 : n < stepAt os os.length) :
    ∃ (rs as : List Addr) (ra a : Addr), H t = some (.lst (rs.map V.ref)) ∧ atI (rs.map V.ref) (j : Int) = some (.ref ra) ∧ H ra = some (.lst (as.map V.ref)) ∧ atI (as.map V.ref) (n : Int) = some (.ref a) ∧ OutAt c ks j H a (bestAt ks j (ps.drop j) (digits os n)) := by
  obtain ⟨rs, ht, hl, hrow⟩ := h
  have hj : j < rs.length := by omega
  obtain ⟨_, as, ha, ho⟩ := hrow j rs[j] h1 (List.getElem?_eq_getElem hj)
  obtain ⟨a, hn, hr⟩ := ho.get (rowOf_at (ks := ks) (ps := ps) (j := j) h3)
  exact ⟨rs, as, rs[j], a, ht, ref_at (List.getElem?_eq_getElem hj), ha, ref_at hn, hr⟩
theorem mem_logs {ks : List Sw95.Kind} {l : List Sw95.Part} {y : Nat × Sw95.Kind × Nat} (h : y ∈ logsOf ks l) : ks[y.1]? = some y.2.1 ∧ Sw95.worth y.2.1 l = some y.2.2 := by
  obtain ⟨k, _, hk⟩ := List.mem_filterMap.mp h
  unfold lg at hk
  cases hz : ks[k]? with
  | none => rw [hz] at hk; cases hk
  | some z =>
    rw [hz] at hk
    dsimp only at hk
    cases hw : Sw95.worth z l with
    | none => rw [hw] at hk; cases hk
    | some v =>
      rw [hw] at hk
      have e : (k, z, v) = y := Option.some.inj hk
      subst e
      exact ⟨hz, hw⟩
section
variable {P : Program} {w : World} {K : PySem.W.Frag} {mg : Str → Option Value} {base : Heap} {c : Cs}
def spOutAt (c : Cs) : Sp := fun vs H Q _ => ∃ (t st ll : Addr) (ks : List Sw95.Kind) (ps : List Sw95.Part) (os : List Nat) (x n : Nat), vs = [.ref t, .ref st, .int x, .int n, .ref ll] ∧ TblAt c ks ps os H t (x + 1) ∧ x < ps.length ∧ IntsAt H st (stepsL os) ∧ os.length = ks.length ∧ n < stepAt os os.length ∧
  LstAt (LogAt c x) H ll (logsOf ks (ps.drop x)) ∧ ∀ (H' : Hp) (r : Addr), Same H H' → H r = none → OutAt c ks x H' r (bestAt ks x (ps.drop x) (digits os n)) → Q (.ref r) H'
theorem scOutAt : FnScope ["table", "steps", "place", "stock", "logs", "above", "found", "log", "rest", "worth"] ["table", "steps", "place", "stock", "logs"] (defScope sOutAt) := ⟨rfl, rfl, rfl, by decide +kernel, rfl, by decide +kernel, by decide +kernel⟩
theorem ok_outAt {f : Addr} {fd : FuncData} (F : Fun K "outlook_at" "outlook_at" sOutAt f fd) (T : Txt K mg c) (GS : Cal P w K mg base 1 "in_stock" ["stock", "steps", "number"] spInStock)
    (GO : Mkr P w K mg base "Outlook" c.O ["self", "worth", "ways", "log"] (spInit c.O 3 (fs3 "worth" "ways" "log"))) : FnOk P w K mg base CX0 3 f fd ["table", "steps", "place", "stock", "logs"] (spOutAt c) := by
  refine F.ok scOutAt (fun vs H Q E h => ?_) (fun cdv A outer s H vs Q E hr h => ?_)
  · obtain ⟨t, st, ll, ks, ps, os, x, n, rfl, _⟩ := h
    rfl
  · obtain ⟨t, st, ll, ks, ps, os, x, n, rfl, hT, hx, hS, hos, hn, hL, k⟩ := h
    refine ⟨_, pss_cons (ps_set (i := 5) scOutAt.nd rfl (Or.inl rfl) (pe_ix ix_list (pe_ix ix_list (pv 0) (pe_op op_add (pv 2) pe_int) (fun _ _ => rfl)) (pv 3) (fun _ _ => rfl)))
      (pss_cons (ps_set (i := 6) scOutAt.nd rfl (Or.inl rfl) (pe_mk GO hr (by decide) (by rfl) (pa_cons (pe_fld (pv 5) rfl) (pa_cons (pe_fld (pv 5) rfl) (pa_cons pe_non pa_nil)))))
      (pss_cons (ps_for PassesOwn.never rfl (pi_list (pv 4)) (pg_name (i := 7) scOutAt.nd rfl (Or.inl rfl))
        (pss_one (ps_if (pt_val (pe_cl GS hr (by decide) (by rfl) (pa_cons (pv 3) (pa_cons (pv 1) (pa_cons (pe_fld (pv 7) rfl) pa_nil)))))
          (pss_cons (ps_set (i := 8) scOutAt.nd rfl (Or.inl rfl) (pe_ix ix_list (pe_ix ix_list (pv 0) (pe_fld (pv 7) rfl) (fun _ _ => rfl)) (pe_op op_sub (pv 3) (pe_ix ix_list (pv 1) (pe_fld (pv 7) rfl) (fun _ _ => rfl))) (fun _ _ => rfl)))
          (pss_cons (ps_set (i := 9) scOutAt.nd rfl (Or.inl rfl) (pe_op op_add (pe_fld (pv 7) rfl) (pe_fld (pv 8) rfl)))
          (pss_one (ps_if (pt_cmpR op_gt (pv 9) (pe_fld (pv 6) rfl) (nomark _))
            (pss_one (ps_set (i := 6) scOutAt.nd rfl (Or.inl rfl) (pe_mk GO hr (by decide) (by rfl) (pa_cons (pv 9) (pa_cons (pe_fld (pv 8) rfl) (pa_cons (pv 7) pa_nil))))))
            (pss_one (ps_if (pt_cmpR op_eq (pv 9) (pe_fld (pv 6) rfl) (nomark _))
              (pss_one (ps_set (i := 6) scOutAt.nd rfl (Or.inl rfl) (pe_mk GO hr (by decide) (by rfl) (pa_cons (pv 9) (pa_cons (pe_op op_add (pe_fld (pv 6) rfl) (pe_fld (pv 8) rfl)) (pa_cons (pv 7) pa_nil)))))) pss_nil))))))
          pss_nil)))
      (pss_one (ps_ret (pv 6))))), ?_⟩
    -- above = table[place + 1][stock]
    obtain ⟨rs, as, ra, a, ht, h1, hra, h2, lga, ⟨da, hda⟩, _⟩ := hT.get (j := x + 1) (n := n) (Nat.le_refl _) hx hn
    refine ⟨_, rfl, _, rfl, _, _, rfl, rfl, t, _, _, _, rfl, rfl, SqL.of ht, (by rw [show (x : Int) + 1 = ((x + 1 : Nat) : Int) by omega]; exact h1), _, rfl, ra, _, _, _, rfl, rfl, SqL.of hra, h2, ?_⟩
    -- found = Outlook(above.worth, above.ways, None)
    refine ⟨_, rfl, a, c.O, da, _, _, rfl, hda, T.clO, T.oW, lk_0, _, rfl, a, c.O, da, _, _, rfl, hda, T.clO, T.oM, lk_1, ?_⟩
    intro fa df nf ndf _
    refine made nf ndf rfl fun H1 s1 hf => ⟨rfl, ?_⟩
    obtain ⟨la, hll, hlo⟩ := id hL
    have hdr := drop_at (List.getElem?_eq_getElem hx)
    have hW := bestAt_weigh ks x ps[x] (ps.drop (x + 1)) (digits os n)
    rw [← hdr] at hW
    refine ⟨_, rfl, ll, rfl, ⟨_, SqL.of (s1 _ _ hll)⟩, for_list (K := K) (a := ll) (xs := la.map V.ref) (fun i σ H' => ∃ (fa : Addr) (v7 v8 v9 : Option V), σ = [some (.ref t), some (.ref st), some (.int x), some (.int n), some (.ref ll), some (.ref a), some (.ref fa), v7, v8, v9] ∧ Same H H' ∧ H fa = none ∧
        OutAt c ks x H' fa (((logsOf ks (ps.drop x)).take i).foldl (weigh ks x (ps.drop x) (digits os n)) (bestAt ks (x + 1) (ps.drop (x + 1)) (digits os n))))
      ⟨fa, none, none, none, rfl, s1, nf, .non, hf, ?_⟩ (fun i σ H' _ ⟨_, _, _, _, _, s5, _⟩ => SqL.of (s5 _ _ hll)) ?_ ?_⟩
    · show LogV c ks x H1 (here x (bestAt ks (x + 1) (ps.drop (x + 1)) (digits os n)).cutting) .non
      rw [bestAt_here ks _ _ (x + 1) x _ (Nat.le_refl _) (by omega)]
      rfl
    · rintro i y σ H' hi ⟨fa, v7, v8, v9, rfl, s5, nfa, lgf, ⟨df, hf⟩, hlf⟩
      obtain ⟨b, hb, rfl⟩ := map_at hi
      obtain ⟨⟨j, z, v⟩, hy, dl, hlb⟩ := hlo.at hb
      obtain ⟨hz, hw⟩ := mem_logs (List.mem_of_getElem? hy)
      dsimp only at hz hw hlb
      rw [take_more hy, List.foldl_append]
      generalize hF : ((logsOf ks (ps.drop x)).take i).foldl (weigh ks x (ps.drop x) (digits os n)) (bestAt ks (x + 1) (ps.drop (x + 1)) (digits os n)) = fnd at hf hlf
      show _
      have hj : j < os.length := by rw [hos]; exact (List.getElem?_eq_some_iff.mp hz).1
      obtain ⟨hz1, hz2⟩ := worth_some hw
      rw [List.length_drop] at hz2
      refine ⟨_, rfl, _, rfl, _, rfl, b, c.L, dl, _, _, rfl, s5 _ _ hlb, T.clL, T.lN, lk_2, st, os, n, j, rfl, s5 _ _ hS, hj, _, rfl, ?_⟩
      by_cases h0 : (digits os n).getD j 0 = 0
      · refine ifF (decide_eq_false (fun q => q h0)) ?_
        refine ⟨fa, _, _, _, rfl, s5, nfa, lgf, ?_⟩
        have e : [(j, z, v)].foldl (weigh ks x (ps.drop x) (digits os n)) fnd = fnd := if_pos h0
        rw [e]
        exact ⟨⟨df, hf⟩, hlf⟩
      · refine ifT (decide_eq_true h0) ?_
        -- rest = table[log.end][stock - steps[log.number]]
        have hsub := digit_le os j n h0
        obtain ⟨rs2, as2, ra2, a2, ht2, h21, hra2, h22, lg2, ⟨da2, hda2⟩, _⟩ := hT.get (j := x + z.long) (n := n - stepAt os j) (by omega) (by omega) (by omega)
        have hlb' := s5 _ _ hlb
        refine ⟨_, rfl, _, rfl, b, c.L, dl, _, _, rfl, hlb', T.clL, T.lE, lk_1, t, _, _, _, rfl, rfl, SqL.of (s5 _ _ ht2), (by rw [show (x : Int) + (z.long : Int) = ((x + z.long : Nat) : Int) by omega]; exact h21), _, rfl, _, rfl, _, rfl, b, c.L, dl, _, _, rfl, hlb', T.clL, T.lN, lk_2, st, _, _, _, rfl, rfl, SqL.of (s5 _ _ hS), nat_at (stepsL_at (Nat.le_of_lt hj)), _, _, rfl, rfl,
          ra2, _, _, _, rfl, rfl, SqL.of (s5 _ _ hra2), (by rw [show (n : Int) - (stepAt os j : Int) = ((n - stepAt os j : Nat) : Int) by omega]; exact h22), ?_⟩
        have hda2' := s5 _ _ hda2
        refine ⟨_, rfl, b, c.L, dl, _, _, rfl, hlb', T.clL, T.lW, lk_3, _, rfl, a2, c.O, da2, _, _, rfl, hda2', T.clO, T.oW, lk_0, _, _, rfl, rfl, ?_⟩
        have ed : (ps.drop x).drop z.long = ps.drop (x + z.long) := by rw [List.drop_drop]
        generalize hB : bestAt ks (x + z.long) (ps.drop (x + z.long)) (digits os (n - stepAt os j)) = bst at hda2'
        rw [digits_sub os j n h0] at hB
        have e : [(j, z, v)].foldl (weigh ks x (ps.drop x) (digits os n)) fnd = Sw95.better ⟨v + bst.value, bst.many, (x, j) :: bst.cutting⟩ fnd := by
          show weigh ks x (ps.drop x) (digits os n) fnd (j, z, v) = _
          unfold weigh
          rw [if_neg h0]
          dsimp only
          rw [ed, hB]
        rw [e]
        have hhere : here x ((x, j) :: bst.cutting) = some j := if_pos rfl
        refine ⟨_, rfl, _, rfl, fa, c.O, df, _, _, rfl, hf, T.clO, T.oW, lk_0, _, _, rfl, rfl, _, rfl, ?_⟩
        by_cases hgt : (fnd.value : Int) < (v : Int) + (bst.value : Int)
        · refine ifT (decide_eq_true hgt) ?_
          refine ⟨_, rfl, _, rfl, a2, c.O, da2, _, _, rfl, hda2', T.clO, T.oM, lk_1, _, rfl, ?_⟩
          intro ga dg ng ndg _
          refine made ng ndg rfl fun H2 s2 hg => ⟨rfl, ?_⟩
          refine ⟨ga, _, _, _, rfl, s5.trans s2, s5.free ng, .ref b, ?_⟩
          have e2 : Sw95.better ⟨v + bst.value, bst.many, (x, j) :: bst.cutting⟩ fnd = ⟨v + bst.value, bst.many, (x, j) :: bst.cutting⟩ := by
            unfold Sw95.better
            rw [if_neg (show ¬ (v + bst.value < fnd.value) by omega), if_pos (show fnd.value < v + bst.value by omega)]
          rw [e2]
          refine ⟨?_, ?_⟩
          · show At c.O H2 ga (outF ((v + bst.value : Nat) : Int) _ _)
            rw [show ((v + bst.value : Nat) : Int) = (v : Int) + (bst.value : Int) by omega]
            exact hg
          · rw [hhere]
            exact ⟨b, z, v, rfl, hz, ⟨dl, s2 _ _ hlb'⟩⟩
        · refine ifF (decide_eq_false hgt) ?_
          refine ⟨_, rfl, _, rfl, fa, c.O, df, _, _, rfl, hf, T.clO, T.oW, lk_0, rfl, _, rfl, ?_⟩
          by_cases heq : (v : Int) + (bst.value : Int) = (fnd.value : Int)
          · refine ifT (decide_eq_true (congrArg V.int heq)) ?_
            refine ⟨_, rfl, _, rfl, fa, c.O, df, _, _, rfl, hf, T.clO, T.oM, lk_1, _, rfl, a2, c.O, da2, _, _, rfl, hda2', T.clO, T.oM, lk_1, _, _, rfl, rfl, _, rfl, ?_⟩
            intro ga dg ng ndg _
            refine made ng ndg rfl fun H2 s2 hg => ⟨rfl, ?_⟩
            refine ⟨ga, _, _, _, rfl, s5.trans s2, s5.free ng, .ref b, ?_⟩
            have e2 : Sw95.better ⟨v + bst.value, bst.many, (x, j) :: bst.cutting⟩ fnd = ⟨v + bst.value, bst.many + fnd.many, (x, j) :: bst.cutting⟩ := by
              unfold Sw95.better
              rw [if_neg (show ¬ (v + bst.value < fnd.value) by omega), if_neg (show ¬ (fnd.value < v + bst.value) by omega)]
            rw [e2]
            refine ⟨?_, ?_⟩
            · show At c.O H2 ga (outF ((v + bst.value : Nat) : Int) ((bst.many + fnd.many : Nat) : Int) _)
              rw [show ((v + bst.value : Nat) : Int) = (v : Int) + (bst.value : Int) by omega, show ((bst.many + fnd.many : Nat) : Int) = (fnd.many : Int) + (bst.many : Int) by omega]
              exact hg
            · rw [hhere]
              exact ⟨b, z, v, rfl, hz, ⟨dl, s2 _ _ hlb'⟩⟩
          · refine ifF (decide_eq_false (fun q => heq (V.int.inj q))) ?_
            refine ⟨fa, _, _, _, rfl, s5, nfa, lgf, ?_⟩
            have e2 : Sw95.better ⟨v + bst.value, bst.many, (x, j) :: bst.cutting⟩ fnd = fnd := by
              unfold Sw95.better
              rw [if_pos (show v + bst.value < fnd.value by omega)]
            rw [e2]
            exact ⟨⟨df, hf⟩, hlf⟩
    · rintro σ H' ⟨fa, v7, v8, v9, rfl, s5, nfa, ho⟩
      rw [List.length_map, hlo.1, List.take_length, ← hW] at ho
      exact ⟨_, rfl, k _ fa s5 nfa ho⟩
end
end LC
namespace LC
open PySem PySem.Spec PyProof.Rows L2
theorem rowOf_len {ks : List Sw95.Kind} {ps : List Sw95.Part} {os : List Nat} {j : Nat} : (rowOf ks ps os j).length = stepAt os os.length := by
  unfold rowOf
  rw [List.length_map, List.length_range]
theorem steps_last {os : List Nat} : atI ((stepsL os).map fun (n : Nat) => V.int (n : Int)) (-1) = some (V.int (stepAt os os.length : Nat)) := by
  obtain ⟨pre, ep⟩ := stepsL_last (os := os) (i := os.length) (Nat.le_refl _)
  rw [List.take_length] at ep
  rw [ep, List.map_append]
  exact atI_last _ _
section
variable {P : Program} {w : World} {K : PySem.W.Frag} {mg : Str → Option Value} {base : Heap} {c : Cs}
def spAllOut (c : Cs) : Sp := fun vs H Q _ => ∃ (l kl st : Addr) (ps : List Sw95.Part) (zs : List Sw95.Kind) (os : List Nat), vs = [.ref l, .ref kl, .ref st] ∧ PartsAt c H l ps ∧ POk ps ∧ KindsAt c H kl zs ∧ KOk zs ∧ IntsAt H st (stepsL os) ∧ os.length = zs.length ∧ (∀ m ∈ os, m ≤ 5) ∧
  ∀ (H' : Hp) (t : Addr), Same H H' → H t = none → TblAt c zs ps os H' t 0 → Q (.ref t) H'
theorem scAllOut : FnScope ["parts", "kinds", "steps", "place", "table", "logs", "stock"] ["parts", "kinds", "steps"] (defScope sAllOut) := ⟨rfl, rfl, rfl, by decide +kernel, rfl, by decide +kernel, by decide +kernel⟩
theorem ok_allOut {f : Addr} {fd : FuncData} (F : Fun K "all_outlooks" "all_outlooks" sAllOut f fd) (T : Txt K mg c) (GF : Cal P w K mg base 4 "logs_from" ["parts", "kinds", "place"] (spLogsFrom c)) (GA : Cal P w K mg base 3 "outlook_at" ["table", "steps", "place", "stock", "logs"] (spOutAt c))
    (GO : Mkr P w K mg base "Outlook" c.O ["self", "worth", "ways", "log"] (spInit c.O 3 (fs3 "worth" "ways" "log"))) : FnOk P w K mg base CX0 5 f fd ["parts", "kinds", "steps"] (spAllOut c) := by
  refine F.ok scAllOut (fun vs H Q E h => ?_) (fun cdv A outer s H vs Q E hr h => ?_)
  · obtain ⟨l, kl, st, ps, zs, os, rfl, _⟩ := h
    rfl
  · obtain ⟨l, kl, st, ps, zs, os, rfl, hP, pok, hK, kok, hS, hos, ho5, k⟩ := h
    refine ⟨_, pss_cons (ps_set (i := 4) scAllOut.nd rfl (Or.inr rfl)
        (pe_lc (own := [("place", 3)]) (g := gName 3) (tt := tYes) (te := tLst tNil) rfl scAllOut.nd (pi_range1 rfl T.range (pa_cons (pe_callB call_len_seq (by rfl) T.len PySem.boot_len (pa_cons (pv 0) pa_nil)) pa_nil))
          (blkOk_by (N := ["parts", "kinds", "steps", "place", "table", "logs", "stock"]) (sc := defScope sAllOut) (by decide +kernel)) (fun _ _ _ _ _ => pg_name (i := 3) scAllOut.nd rfl (Or.inl rfl)) (fun _ _ _ _ _ => pts_nil)
          (fun _ _ _ _ _ => by exact pe_lst pa_nil)))
      (pss_cons (ps_expr (pe_bm PySem.F.plainAttrs_list PySem.F.slot_list_append PySem.F.type_list_append mt_append (pv 4) (pa_cons
        (pe_lc (own := [("stock", 6)]) (g := gName 6) (tt := tYes) (te := tMake c.O (spInit c.O 3 (fs3 "worth" "ways" "log")) [] E0 (tCons (tC (.int 0)) (tCons (tC (.int 1)) (tCons (tC .non) tNil)))) rfl scAllOut.nd (pi_range1 rfl T.range (pa_cons (pe_ix ix_list (pv 2) (pe_un un_neg pe_int) (fun _ _ => rfl)) pa_nil))
          (blkOk_by (N := ["parts", "kinds", "steps", "place", "table", "logs", "stock"]) (sc := defScope sAllOut) (by decide +kernel)) (fun _ _ _ _ _ => pg_name (i := 6) scAllOut.nd rfl (Or.inl rfl)) (fun _ _ _ _ _ => pts_nil)
          (fun _ _ _ _ _ => by exact pe_mk GO hr (by decide) (by rfl) (pa_cons pe_int (pa_cons pe_int (pa_cons pe_non pa_nil))))) pa_nil)))
      (pss_cons (ps_for PassesOwn.never rfl (pi_range3 rfl T.range (pa_cons (pe_op op_sub (pe_callB call_len_seq (by rfl) T.len PySem.boot_len (pa_cons (pv 0) pa_nil)) pe_int) (pa_cons (pe_un un_neg pe_int) (pa_cons (pe_un un_neg pe_int) pa_nil)))) (pg_name (i := 3) scAllOut.nd rfl (Or.inr rfl))
        (pss_cons (ps_set (i := 5) scAllOut.nd rfl (Or.inr rfl) (pe_cl GF hr (by decide) (by rfl) (pa_cons (pv 0) (pa_cons (pv 1) (pa_cons (pv 3) pa_nil)))))
        (pss_one (ps_asg
          (pe_lc (own := [("stock", 6)]) (g := gName 6) (tt := tYes) (te := tCall (spOutAt c) [] E0 (tCons (tVar 4) (tCons (tVar 2) (tCons (tVar 3) (tCons (tVar 6) (tCons (tVar 5) tNil)))))) rfl scAllOut.nd (pi_range1 rfl T.range (pa_cons (pe_ix ix_list (pv 2) (pe_un un_neg pe_int) (fun _ _ => rfl)) pa_nil))
            (blkOk_by (N := ["parts", "kinds", "steps", "place", "table", "logs", "stock"]) (sc := defScope sAllOut) (by decide +kernel)) (fun _ _ _ _ _ => pg_name (i := 6) scAllOut.nd rfl (Or.inl rfl)) (fun _ _ _ _ _ => pts_nil)
            (fun _ _ _ _ _ => by exact pe_cl GA hr (by decide) (by rfl) (pa_cons (pv 4) (pa_cons (pv 2) (pa_cons (pv 3) (pa_cons (pv 6) (pa_cons (pv 5) pa_nil)))))))
          (pg_sub (pv 4) (pv 3) set_list)))))
      (pss_one (ps_ret (pv 4))))), ?_⟩
    obtain ⟨pas, hpl, hpo⟩ := id hP
    have hlen : ((pas.map V.ref).length : Int) = (ps.length : Int) := by rw [List.length_map, hpo.1]
    have h40 := pok.1
    have hS6 : stepAt os os.length ≤ 6 ^ 3 := Nat.le_trans (stepAt_le os _ ho5) (Nat.pow_le_pow_right (by decide) (by rw [hos]; exact kok.1))
    have hSp := stepAt_pos os os.length
    -- table = [[] for place in range(len(parts))]
    refine ⟨_, rfl, l, _, rfl, .inl (SqL.of hpl), (ps.length : Int), (by rw [hlen]), by omega, by omega, fun t nt => ?_⟩
    refine lc_range (lo := 0) (n := ((ps.length : Nat) : Int).toNat) (fun i H' => Same H H' ∧ ∃ rs : List Addr, rs.length = i ∧ H' t = some (.lst (rs.map V.ref))) ⟨Same.new nt, [], rfl, upd_same⟩ ?_ ?_
    · rintro i H' hi ⟨s1, rs, el, ht⟩
      refine ⟨rfl, yesT (ifT rfl ?_)⟩
      refine ⟨Nat.zero_le _, fun e ne => ?_⟩
      have nte : t ≠ e := ne_of_none ht ne
      refine ⟨_, (by rw [upd_ne nte]; exact ht), ?_, Same.grow (Same.grow s1 (s1.free ne)) nt, rs ++ [e], ?_, ?_⟩
      · rw [List.length_map, el]
        exact line_of (by omega)
      · rw [List.length_append, el]
        rfl
      · rw [upd_same, List.map_append]
        rfl
    rintro H1 ⟨s1, rs, el, ht⟩
    rw [Int.toNat_natCast] at el
    -- table.append([Outlook(0, 1, None) for stock in range(steps[-1])])
    refine ⟨_, rfl, .inl ⟨rfl, _, SqL.of ht⟩, _, rfl, _, rfl, st, _, _, _, rfl, rfl, SqL.of (s1 _ _ hS), steps_last, (stepAt os os.length : Nat), rfl, by omega, by omega, fun ra nra => ?_⟩
    have nrt : ra ≠ t := (ne_of_none ht nra).symm
    refine lc_range (lo := 0) (n := ((stepAt os os.length : Nat) : Int).toNat) (fun i H' => Same H1 H' ∧ LstAt (OutAt c zs ps.length) H' ra ((rowOf zs ps os ps.length).take i)) ⟨Same.new nra, [], upd_same, Objs.nil⟩ ?_ ?_
    · rintro i H' hi ⟨s2, as, hra, hro⟩
      rw [Int.toNat_natCast] at hi
      refine ⟨rfl, yesT (ifT rfl ?_)⟩
      intro o d no nd _
      refine made no nd rfl fun H2 s3 hm => ⟨rfl, ?_⟩
      have hra2 := s3 _ _ hra
      refine ⟨_, hra2, ?_, Same.grow (s2.trans s3) nra, as ++ [o], by rw [upd_same, List.map_append]; rfl, ?_⟩
      · rw [List.length_map, hro.1, List.length_take, rowOf_len]
        exact line_of (by omega)
      · rw [take_more (rowOf_at hi)]
        refine Objs.snoc (hro.mono fun a b q => (q.same s3).upd hra2) ?_
        rw [List.drop_length]
        exact ⟨.non, At.upd hm hra2, rfl⟩
    rintro H2 ⟨s2, hrow⟩
    rw [Int.toNat_natCast, List.take_of_length_le (Nat.le_of_eq rowOf_len)] at hrow
    have ht2 := s2 _ _ ht
    refine ⟨t, _, _, rfl, rfl, ht2, ?_, ?_⟩
    · rw [List.length_map, el]
      exact line_of (by omega)
    have hT0 : TblAt c zs ps os (upd H2 t (.lst (rs.map V.ref ++ [V.ref ra]))) t ps.length := by
      refine ⟨rs ++ [ra], by rw [upd_same, List.map_append]; rfl, by rw [List.length_append, el]; rfl, fun j rb hj hb => ?_⟩
      have hlt : j < (rs ++ [ra]).length := (List.getElem?_eq_some_iff.mp hb).1
      rw [List.length_append, el] at hlt
      have ej : j = ps.length := by
        have : [ra].length = 1 := rfl
        omega
      subst ej
      rw [List.getElem?_append_right (by omega), show ps.length - rs.length = 0 by omega] at hb
      have eb : ra = rb := Option.some.inj hb
      subst eb
      obtain ⟨as, h1, h2⟩ := hrow
      exact ⟨nrt, as, by rw [upd_ne nrt]; exact h1, h2.mono fun a b q => q.upd ht2⟩
    -- for place in range(len(parts) - 1, -1, -1)
    have s12 : Same H (upd H2 t (.lst (rs.map V.ref ++ [V.ref ra]))) := Same.grow (s1.trans s2) nt
    refine ⟨_, rfl, l, _, rfl, .inl (SqL.of (s12 _ _ hpl)), _, _, rfl, rfl, _, rfl, _, rfl, (ps.length : Int) - 1, -1, -1, ps.length, (by rw [hlen]), ?_, ?_⟩
    · have e : ((ps.length : Int) - 1 - (-1)).toNat = ps.length := by omega
      have q := RgC.neg (i := (ps.length : Int) - 1) (j := -1) (by omega) (by omega) (by decide) (by decide)
      rw [e] at q
      exact q
    refine for_rangeC (lo := (ps.length : Int) - 1) (c := -1) (n := ps.length) (fun i σ H' => ∃ (v3 v5 : Option V), σ = [some (.ref l), some (.ref kl), some (.ref st), v3, some (.ref t), v5, none] ∧ Same H H' ∧ TblAt c zs ps os H' t (ps.length - i)) ⟨none, none, rfl, s12, hT0⟩ ?_ ?_
    · rintro i σ H' hi ⟨v3, v5, rfl, s5, hT⟩
      have ei : (ps.length : Int) - 1 + (i : Nat) * (-1) = ((ps.length - 1 - i : Nat) : Int) := by omega
      rw [ei]
      have elo : ps.length - i = ps.length - 1 - i + 1 := by omega
      rw [elo] at hT
      rw [show ps.length - (i + 1) = ps.length - 1 - i by omega]
      have hx : ps.length - 1 - i < ps.length := by omega
      generalize ps.length - 1 - i = x at hT hx ⊢
      refine ⟨_, rfl, _, rfl, _, rfl, l, kl, ps, zs, x, rfl, hP.same s5, pok, hK.same s5, kok, fun H3 ll s6 nll hL => ?_⟩
      have hT3 := hT.same s6
      have s7 : Same H H3 := s5.trans s6
      -- table[place] = [outlook_at(table, steps, place, stock, logs) for stock in range(steps[-1])]
      refine ⟨_, rfl, _, rfl, st, _, _, _, rfl, rfl, SqL.of (s7 _ _ hS), steps_last, (stepAt os os.length : Nat), rfl, by omega, by omega, fun rb nrb => ?_⟩
      refine lc_range (lo := 0) (n := ((stepAt os os.length : Nat) : Int).toNat) (fun m H' => Same H3 H' ∧ LstAt (OutAt c zs x) H' rb ((rowOf zs ps os x).take m)) ⟨Same.new nrb, [], upd_same, Objs.nil⟩ ?_ ?_
      · rintro m H4 hm ⟨s8, as, hrb, hro⟩
        rw [Int.toNat_natCast] at hm
        refine ⟨rfl, yesT (ifT rfl ?_)⟩
        refine ⟨_, rfl, _, rfl, _, rfl, _, rfl, _, rfl, t, st, ll, zs, ps, os, x, m, (by rw [Int.zero_add]; rfl), hT3.same s8, hx, s8 _ _ (s7 _ _ hS), hos, hm, LstAt.mono hL s8 (fun _ _ q => q.same s8), fun H5 o s9 no hout => ?_⟩
        have hrb5 := s9 _ _ hrb
        refine ⟨_, hrb5, ?_, Same.grow (s8.trans s9) nrb, as ++ [o], by rw [upd_same, List.map_append]; rfl, ?_⟩
        · rw [List.length_map, hro.1, List.length_take, rowOf_len]
          exact line_of (by omega)
        · rw [take_more (rowOf_at hm)]
          exact Objs.snoc (hro.mono fun a b q => (q.same s9).upd hrb5) (hout.upd hrb5)
      · rintro H4 ⟨s8, hrow4⟩
        rw [Int.toNat_natCast, List.take_of_length_le (Nat.le_of_eq rowOf_len)] at hrow4
        obtain ⟨rs4, ht4, hl4, hr4⟩ := hT3.same s8
        have hxl : x < rs4.length := by omega
        refine ⟨_, rfl, _, rfl, t, _, _, x, rfl, rfl, ht4, ?_, ?_⟩
        · unfold ixN
          rw [if_pos (by omega), List.length_map, if_pos (by omega), Int.toNat_natCast]
        · refine ⟨_, _, rfl, Same.grow (s7.trans s8) nt, rs4.set x rb, by rw [upd_same, List.map_set], by rw [List.length_set]; exact hl4, fun j rj hj hrj => ?_⟩
          have nbt : rb ≠ t := by
            obtain ⟨_, ht3, _⟩ := hT3
            exact (ne_of_none ht3 nrb).symm
          by_cases ejx : x = j
          · subst ejx
            rw [List.getElem?_set_self hxl] at hrj
            have eb : rb = rj := Option.some.inj hrj
            subst eb
            obtain ⟨as, h1, h2⟩ := hrow4
            exact ⟨nbt, as, by rw [upd_ne nbt]; exact h1, h2.mono fun a b q => q.upd ht4⟩
          · rw [List.getElem?_set_ne ejx] at hrj
            obtain ⟨nj, as, h1, h2⟩ := hr4 j rj (by omega) hrj
            exact ⟨nj, as, by rw [upd_ne nj]; exact h1, h2.mono fun a b q => q.upd ht4⟩
    · rintro σ H' ⟨v3, v5, rfl, s5, hT⟩
      rw [Nat.sub_self] at hT
      exact ⟨_, rfl, k _ t s5 nt hT⟩
end
end LC
namespace LC
open PySem PySem.Spec PyProof.Rows L2
theorem bestAt_count (ks : List Sw95.Kind) : ∀ (n : Nat) (l : List Sw95.Part) (x : Nat) (left : List Nat), l.length ≤ n → (bestAt ks x l left).cutting.length ≤ l.length
  | _, [], x, left, _ => Nat.le_refl _
  | 0, _ :: _, _, _, h => by simp at h
  | n + 1, p :: l, x, left, hn => by
    have hn' : l.length ≤ n := by simpa using hn
    cases bestAt_cut ks x p l left with
    | inl e =>
      rw [e]
      exact Nat.le_trans (bestAt_count ks n l (x + 1) left hn') (by simp)
    | inr e =>
      obtain ⟨k, z, v, hk, _, hw, e⟩ := e
      obtain ⟨h1, h2⟩ := worth_some hw
      rw [e]
      have ih := bestAt_count ks n ((p :: l).drop z.long) (x + z.long) (left.set k (left.getD k 0 - 1)) (by rw [List.length_drop, List.length_cons]; omega)
      rw [List.length_drop] at ih
      rw [List.length_cons]
      omega
/-- a log of a cutting -/
def CutAt (c : Cs) (ks : List Sw95.Kind) (H : Hp) (a : Addr) (y : Nat × Nat) : Prop := ∃ (z : Sw95.Kind) (v : Int), ks[y.2]? = some z ∧ At c.L H a (logF y.1 ((y.1 : Int) + (z.long : Int)) y.2 v)
theorem CutAt.same {c : Cs} {ks : List Sw95.Kind} {H H' : Hp} {a : Addr} {y : Nat × Nat} (h : CutAt c ks H a y) (s : Same H H') : CutAt c ks H' a y := by
  obtain ⟨z, v, h1, h2⟩ := h
  exact ⟨z, v, h1, h2.same s⟩
theorem CutAt.upd {c : Cs} {ks : List Sw95.Kind} {H : Hp} {a : Addr} {y : Nat × Nat} {l : Addr} {u : HO} {xs : List V} (h : CutAt c ks H a y) (hl : H l = some (.lst xs)) : CutAt c ks (L2.upd H l u) a y := by
  obtain ⟨z, v, h1, h2⟩ := h
  exact ⟨z, v, h1, At.upd h2 hl⟩
section
variable {P : Program} {w : World} {K : PySem.W.Frag} {mg : Str → Option Value} {base : Heap} {c : Cs}
def spEarly (c : Cs) : Sp := fun vs H Q _ => ∃ (t st : Addr) (ks : List Sw95.Kind) (ps : List Sw95.Part) (os : List Nat), vs = [.ref t, .ref st] ∧ TblAt c ks ps os H t 0 ∧ ps.length ≤ 40 ∧ IntsAt H st (stepsL os) ∧ os.length = ks.length ∧
  ∀ (H' : Hp) (r : Addr), Same H H' → H r = none → LstAt (CutAt c ks) H' r (bestAt ks 0 ps os).cutting → Q (.ref r) H'
theorem scEarly : FnScope ["table", "steps", "logs", "place", "stock", "log"] ["table", "steps"] (defScope sEarly) := ⟨rfl, rfl, rfl, by decide +kernel, rfl, by decide +kernel, by decide +kernel⟩
/-- how far the place is from the end -/
def farOf (n : Nat) (σ : List (Option V)) : Nat := match σ[3]? with
  | some (some (V.int x)) => ((n : Int) - x).toNat
  | _ => 0
theorem ok_early {f : Addr} {fd : FuncData} (F : Fun K "earliest_logs" "earliest_logs" sEarly f fd) (T : Txt K mg c) : FnOk P w K mg base CX0 1 f fd ["table", "steps"] (spEarly c) := by
  refine F.ok scEarly (fun vs H Q E h => ?_) (fun cdv A outer s H vs Q E hr h => ?_)
  · obtain ⟨t, st, ks, ps, os, rfl, _⟩ := h
    rfl
  · obtain ⟨t, st, ks, ps, os, rfl, hT, h40, hS, hos, k⟩ := h
    refine ⟨_, pss_cons (ps_set (i := 2) scEarly.nd rfl (Or.inl rfl) (pe_lst pa_nil))
      (pss_cons (ps_set (i := 3) scEarly.nd rfl (Or.inl rfl) pe_int)
      (pss_cons (ps_set (i := 4) scEarly.nd rfl (Or.inl rfl) (pe_op op_sub (pe_ix ix_list (pv 1) (pe_un un_neg pe_int) (fun _ _ => rfl)) pe_int))
      (pss_cons (ps_while PassesOwn.never (pt_cmpR op_lt (pv 3) (pe_op op_sub (pe_callB call_len_seq (by rfl) T.len PySem.boot_len (pa_cons (pv 0) pa_nil)) pe_int) (nomark _))
        (pss_cons (ps_set (i := 5) scEarly.nd rfl (Or.inl rfl) (pe_fld (pe_ix ix_list (pe_ix ix_list (pv 0) (pv 3) (fun _ _ => rfl)) (pv 4) (fun _ _ => rfl)) rfl))
        (pss_one (ps_if (pt_cmpR op_isN (pv 5) pe_non (nomark _))
          (pss_one (ps_aug (i := 3) scEarly.nd rfl (.inl rfl) pe_int ip_add))
          (pss_cons (ps_expr (pe_bm PySem.F.plainAttrs_list PySem.F.slot_list_append PySem.F.type_list_append mt_append (pv 2) (pa_cons (pv 5) pa_nil)))
          (pss_cons (ps_set (i := 3) scEarly.nd rfl (Or.inl rfl) (pe_fld (pv 5) rfl))
          (pss_one (ps_aug (i := 4) scEarly.nd rfl (.inl rfl) (pe_ix ix_list (pv 1) (pe_fld (pv 5) rfl) (fun _ _ => rfl)) ip_sub))))))))
      (pss_one (ps_ret (pv 2)))))), ?_⟩
    have hSp := stepAt_pos os os.length
    refine ⟨Nat.zero_le _, fun r nr => ?_⟩
    refine ⟨_, rfl, _, rfl, st, _, _, _, rfl, rfl, SqL.of (Same.new nr _ _ hS), steps_last, _, _, rfl, rfl, ?_⟩
    refine while_by (fun σ H' => ∃ (x n : Nat) (cs : List (Nat × Nat)) (v5 : Option V), σ = [some (.ref t), some (.ref st), some (.ref r), some (.int x), some (.int n), v5] ∧ x ≤ ps.length ∧ n < stepAt os os.length ∧ Same H H' ∧ LstAt (CutAt c ks) H' r cs ∧
        (bestAt ks 0 ps os).cutting = cs ++ (bestAt ks x (ps.drop x) (digits os n)).cutting) (fun σ _ => farOf ps.length σ)
      ⟨0, stepAt os os.length - 1, [], none, ?_, Nat.zero_le _, by omega, Same.new nr, ⟨[], upd_same, Objs.nil⟩, ?_⟩ ?_ ?_
    · show [some (V.ref t), some (V.ref st), some (V.ref r), some (V.int 0), some (V.int ((stepAt os os.length : Int) - 1)), none] = _
      rw [show (stepAt os os.length : Int) - 1 = ((stepAt os os.length - 1 : Nat) : Int) by omega]
      rfl
    · rw [List.drop_zero, digits_full, List.nil_append]
    · rintro σ H' ⟨x, n, cs, v5, rfl, hx, hn, s5, ⟨as, hr5, ho5⟩, eC⟩
      obtain ⟨rs, ht, hl, _⟩ := id hT
      refine ⟨_, rfl, _, rfl, t, _, rfl, .inl (SqL.of (s5 _ _ ht)), _, _, rfl, rfl, _, _, rfl, rfl, _, rfl, ?_⟩
      have hlen : ((rs.map V.ref).length : Int) - 1 = (ps.length : Int) := by rw [List.length_map, hl]; omega
      by_cases hlt : x < ps.length
      · refine ifT (decide_eq_true (by rw [hlen]; omega)) ?_
        obtain ⟨rs2, as2, ra2, a2, ht2, h21, hra2, h22, lg2, ⟨da2, hda2⟩, hlv⟩ := hT.get (j := x) (n := n) (Nat.zero_le _) hx hn
        refine ⟨_, rfl, _, rfl, t, _, _, _, rfl, rfl, SqL.of (s5 _ _ ht2), h21, _, rfl, ra2, _, _, _, rfl, rfl, SqL.of (s5 _ _ hra2), h22, a2, c.O, da2, _, _, rfl, s5 _ _ hda2, T.clO, T.oL, lk_2, ?_⟩
        have hdr := drop_at (List.getElem?_eq_getElem hlt)
        cases hh : here x (bestAt ks x (ps.drop x) (digits os n)).cutting with
        | none =>
          rw [hh] at hlv
          have el : lg2 = .non := hlv
          subst el
          refine ⟨_, rfl, rfl, _, rfl, ?_⟩
          refine ifT (decide_eq_true rfl) ?_
          refine ⟨_, rfl, _, _, rfl, rfl, ⟨x + 1, n, cs, some .non, ?_, hlt, hn, s5, ⟨as, hr5, ho5⟩, ?_⟩, ?_⟩
          · rfl
          · rw [hdr] at hh eC
            rw [eC, here_none hh]
          · show ((ps.length : Int) - ((x : Int) + 1)).toNat < ((ps.length : Int) - (x : Int)).toNat
            omega
        | some j =>
          rw [hh] at hlv
          obtain ⟨la, z, v, rfl, hz, dl, hla⟩ := hlv
          refine ⟨_, rfl, rfl, _, rfl, ?_⟩
          refine ifF (decide_eq_false (by intro q; cases q)) ?_
          rw [hdr] at hh eC
          obtain ⟨z', v', hz', h0, hw, ec⟩ := here_some hh
          rw [hz] at hz'
          cases hz'
          obtain ⟨hz1, hz2⟩ := worth_some hw
          rw [← hdr, List.length_drop] at hz2
          rw [ec, ← hdr, List.drop_drop] at eC
          have hsub := digit_le os j n h0
          have hj : j < os.length := by rw [hos]; exact (List.getElem?_eq_some_iff.mp hz).1
          have hcl : cs.length ≤ 40 := by
            have q := bestAt_count ks ps.length ps 0 os (Nat.le_refl _)
            rw [eC, List.length_append] at q
            omega
          have hla' := s5 _ _ hla
          refine ⟨_, rfl, .inl ⟨rfl, _, SqL.of hr5⟩, _, rfl, r, _, _, rfl, rfl, hr5, ?_, ?_⟩
          · rw [List.length_map, ho5.1]
            exact line_of (by omega)
          have nlr : la ≠ r := ne_of hla' hr5 (by intro q; cases q)
          have hla2 : (upd H' r (.lst (as.map V.ref ++ [V.ref la]))) la = some (.ins c.L dl (logF x ((x : Int) + (z.long : Int)) j v)) := by rw [upd_ne nlr]; exact hla'
          have s6 : Same H (upd H' r (.lst (as.map V.ref ++ [V.ref la]))) := Same.grow s5 nr
          refine ⟨_, rfl, la, c.L, dl, _, _, rfl, hla2, T.clL, T.lE, lk_1, ?_⟩
          refine ⟨_, rfl, _, rfl, _, rfl, la, c.L, dl, _, _, rfl, hla2, T.clL, T.lN, lk_2, st, _, _, _, rfl, rfl, SqL.of (s6 _ _ hS), nat_at (stepsL_at (Nat.le_of_lt hj)), _, _, rfl, rfl, ?_⟩
          refine ⟨⟨x + z.long, n - stepAt os j, cs ++ [(x, j)], some (.ref la), ?_, by omega, by omega, s6, ⟨as ++ [la], by rw [upd_same, List.map_append]; rfl, ?_⟩, ?_⟩, ?_⟩
          · show [some (V.ref t), some (V.ref st), some (V.ref r), some (V.int ((x : Int) + (z.long : Int))), some (V.int ((n : Int) - (stepAt os j : Int))), some (V.ref la)] = _
            rw [show (n : Int) - (stepAt os j : Int) = ((n - stepAt os j : Nat) : Int) by omega]
            rfl
          · exact Objs.snoc (ho5.mono fun a b q => q.upd hr5) ⟨z, v, hz, dl, hla2⟩
          · rw [eC, digits_sub os j n h0, List.append_assoc]
            rfl
          · show ((ps.length : Int) - ((x : Int) + (z.long : Int))).toNat < ((ps.length : Int) - (x : Int)).toNat
            omega
      · refine ifF (decide_eq_false (by rw [hlen]; omega)) ?_
        refine ⟨_, rfl, k _ r s5 nr ?_⟩
        have ex : x = ps.length := by omega
        rw [ex, List.drop_length] at eC
        have e0 : (bestAt ks ps.length [] (digits os n)).cutting = [] := rfl
        rw [e0, List.append_nil] at eC
        rw [eC]
        exact ⟨as, hr5, ho5⟩
    · rintro σ H' Q1 Q2 m ⟨v, e1, v2, e2, p, ys, e3, e4, i, j, e5, e6, i2, j2, e7, e8, kk, e9, q⟩
      exact ⟨v, e1, v2, e2, p, ys, e3, e4, i, j, e5, e6, i2, j2, e7, e8, kk, e9, m _ _ q⟩
end
end LC
/-! zip of a list and two tuples, walked by a for with a written triple. -/
namespace LC
open PySem PySem.Spec PyProof.Rows L2
/-- a list at a, tuples at b and d, the items in new triples -/
def Itz3 (K : PySem.W.Frag) (a b d : Addr) : It :=
  ⟨fun i H => ∃ (xs ys zs : List V) (x y z : V), SqL K H a xs ∧ SqT K H b ys ∧ SqT K H d zs ∧ xs[i]? = some x ∧ ys[i]? = some y ∧ zs[i]? = some z,
   fun i H v H' => ∃ T x y z, v = .ref T ∧ H T = none ∧ H' = upd H T (.tup [x, y, z]) ∧ (∀ xs, SqL K H a xs → xs[i]? = some x) ∧ (∀ ys, SqT K H b ys → ys[i]? = some y) ∧ ∀ zs, SqT K H d zs → zs[i]? = some z,
   fun i H => ∃ xs ys zs : List V, SqL K H a xs ∧ SqT K H b ys ∧ SqT K H d zs ∧ i ≤ xs.length ∧ i ≤ ys.length ∧ i ≤ zs.length ∧ (i = xs.length ∨ i = ys.length ∨ i = zs.length)⟩
abbrev Zst (z TI TO i1 i2 i3 a b d : Addr) (i : Nat) (h : Heap) : Prop :=
  IsZip h z TI TO .none ∧ IsTupOf3 h TI (.ref i1) (.ref i2) (.ref i3) ∧ (∃ x y u, IsTupOf3 h TO x y u) ∧ h.IsListIter i1 a i ∧ h.IsTupleIter i2 b i ∧ h.IsTupleIter i3 d i
theorem six {z TI TO i1 i2 i3 q : Addr} (h : q ∈ [z, TI, TO, i1, i2, i3]) : q = z ∨ q = TI ∨ q = TO ∨ q = i1 ∨ q = i2 ∨ q = i3 := by simpa using h
theorem turn_zip3 {P : Program} {w : World} {K : PySem.W.Frag} {elts : List Expr} {kk : Nat} {tpos : Pos} {a b d z TI TO i1 i2 i3 : Addr} (D : ZipSep3 z TI TO i1 i2 i3 [i1, a] [i2, b] [i3, d]) (n1 : a ≠ i1) (n2 : b ≠ i2) (n3 : d ≠ i3) :
    Turn P w K (.Tuple elts kk tpos) (Itz3 K a b d) [z, TI, TO, i1, i2, i3] z (Zst z TI TO i1 i2 i3 a b d) where
  mem := List.mem_cons_self
  obj := by
    rintro i h ⟨hz, hTI, ⟨x, y, u, hTO⟩, ⟨o1, e1, _, d1⟩, ⟨o2, e2, _, d2⟩, ⟨o3, e3, _, d3⟩⟩ q hq
    rcases six hq with e | e | e | e | e | e <;> subst e
    · exact ⟨_, hz, fun v q => nomatch q⟩
    · exact ⟨_, hTI, fun v q => nomatch q⟩
    · exact ⟨_, hTO, fun v q => nomatch q⟩
    · exact ⟨o1, e1, fun v q => by rw [d1] at q; cases q⟩
    · exact ⟨o2, e2, fun v q => by rw [d2] at q; cases q⟩
    · exact ⟨o3, e3, fun v q => by rw [d3] at q; cases q⟩
  keep := by
    rintro i h h' ⟨hz, hTI, ⟨x, y, u, hTO⟩, h1, h2, h3⟩ k
    exact ⟨k z (by simp) _ hz, k TI (by simp) _ hTI, ⟨x, y, u, k TO (by simp) _ hTO⟩, h1.at fun o q => k i1 (by simp) o q, h2.at fun o q => k i2 (by simp) o q, h3.at fun o q => k i3 (by simp) o q⟩
  item := by
    intro X eP ew eK hc i pins s σ H E I hf st hg
    subst eP ew eK
    obtain ⟨hz, hTI, ⟨x0, y0, u0, hTO⟩, h1, h2, h3⟩ := st
    obtain ⟨xs, ys, zs, x, y, u, qx, qy, qu, gx, gy, gu⟩ := hg
    obtain ⟨its1, rv1, p1, _⟩ := I.list qx
    obtain ⟨its2, rv2, p2, _⟩ := I.tuple qy
    obtain ⟨its3, rv3, p3, _⟩ := I.tuple qu
    obtain ⟨v1, w1, ru1⟩ := rv1.get gx
    obtain ⟨v2, w2, ru2⟩ := rv2.get gy
    obtain ⟨v3, w3, ru3⟩ := rv3.get gu
    have zIn := Heap.lt_size hz
    have hh : X.A.in1.handled = none := I.ok.hd hc
    have l1 : i < its1.toArray.size := by have := (List.getElem?_eq_some_iff.mp w1).1; simpa using this
    have l2 : i < its2.toArray.size := by have := (List.getElem?_eq_some_iff.mp w2).1; simpa using this
    have l3 : i < its3.toArray.size := by have := (List.getElem?_eq_some_iff.mp w3).1; simpa using this
    refine wpAny_pyNext_zipD3_item D (Draws.list hh i1 a n1 its1.toArray) (Draws.tuple hh i2 b n2 its2.toArray) (Draws.tuple hh i3 d n3 its3.toArray) hz hTI hTO ⟨h1, p1.isList⟩ ⟨h2, p2⟩ ⟨h3, p3⟩ l1 l2 l3 fun x1 x2 x3 h' tk y1 y2 y3 z' TO' s1' s2' s3' hT hsz hk => ?_
    have ex1 : x1 = v1 := by
      have q : its1[i]? = some x1 := by simpa using y1
      exact Option.some.inj (q.symm.trans w1)
    have ex2 : x2 = v2 := by
      have q : its2[i]? = some x2 := by simpa using y2
      exact Option.some.inj (q.symm.trans w2)
    have ex3 : x3 = v3 := by
      have q : its3[i]? = some x3 := by simpa using y3
      exact Option.some.inj (q.symm.trans w3)
    subst ex1 ex2 ex3
    refine ⟨_, rfl, wpAny_letOwnedTupleGo_zip (s := { s with heap := h', toks := tk }) z' fun h'' z'' sb => ?_⟩
    have hT2 : h''.get? s.heap.objs.size = some { cls := .type "tuple", data := .seq #[x1, x2, x3] } := (sb.2 _ (Nat.ne_of_gt zIn)).trans hT
    have new : ObjOk X.prog X.w (upd H s.heap.objs.size (.tup [x, y, u])) h'' s.heap.objs.size (.tup [x, y, u]) :=
      ⟨(by show 3 ≤ sizeLine; decide), [x1, x2, x3], .cons ru1 (.cons ru2 (.cons ru3 .nil)), ⟨_, hT2, rfl, _, rfl⟩⟩
    have I1 : Inv X pins σ (upd H s.heap.objs.size (.tup [x, y, u])) { s with heap := h'', toks := tk } := by
      refine I.turnedNew (t' := tk) (ch := [z, TI, TO, i1, i2, i3]) (fun q o hb e => ?_) hf (Nat.le_refl _) new
      have ne : ∀ r ∈ [z, TI, TO, i1, i2, i3], q ≠ r := fun r hr e => hb (e ▸ hr)
      exact (sb.2 q (ne z (by simp))).trans (hk q o (ne z (by simp)) (ne TO (by simp)) (ne i1 (by simp)) (ne i2 (by simp)) (ne i3 (by simp)) e)
    refine ⟨.ref s.heap.objs.size, _, I1, rfl, ⟨_, x, y, u, rfl, I.hok.fresh (Nat.le_refl _), rfl, fun l hl => ?_, fun l hl => ?_, fun l hl => ?_⟩, ⟨z'', ?_, ⟨x1, x2, x3, ?_⟩, ?_, ?_, ?_⟩, fun q hq => ?_⟩
    · rw [I.list_inj hl qx]
      exact gx
    · rw [I.tuple_inj hl qy]
      exact gy
    · rw [I.tuple_inj hl qu]
      exact gu
    · exact (sb.2 _ D.TIz).trans (hk _ _ D.TIz D.TITO D.TIi1 D.TIi2 D.TIi3 hTI)
    · have stays := sb.2 _ D.TOz
      exact stays.trans TO'
    · exact s1'.1.at fun o q => (sb.2 _ D.zi1.symm).trans q
    · exact s2'.1.at fun o q => (sb.2 _ D.zi2.symm).trans q
    · exact s3'.1.at fun o q => (sb.2 _ D.zi3.symm).trans q
    · have hlt : q < s.heap.objs.size := by
        rcases six hq with e | e | e | e | e | e <;> subst e
        · exact zIn
        · exact Heap.lt_size hTI
        · exact Heap.lt_size hTO
        · obtain ⟨_, e1, _⟩ := h1
          exact Heap.lt_size e1
        · obtain ⟨_, e1, _⟩ := h2
          exact Heap.lt_size e1
        · obtain ⟨_, e1, _⟩ := h3
          exact Heap.lt_size e1
      have nq := Nat.ne_of_lt hlt
      rw [upd_ne nq]
      exact (hf q hq).1
  done := by
    intro X eP ew eK hc i pins s σ H E I hf st hg
    subst eP ew eK
    obtain ⟨hz, hTI, ⟨x0, y0, u0, hTO⟩, h1, h2, h3⟩ := st
    obtain ⟨xs, ys, zs, qx, qy, qu, m1, m2, m3, hend⟩ := hg
    obtain ⟨its1, rv1, p1, _⟩ := I.list qx
    obtain ⟨its2, rv2, p2, _⟩ := I.tuple qy
    obtain ⟨its3, rv3, p3, _⟩ := I.tuple qu
    have hh : X.A.in1.handled = none := I.ok.hd hc
    have l1 := rv1.length
    have l2 := rv2.length
    have l3 := rv3.length
    have t1 : its1.toArray.size = its1.length := by simp
    have t2 : its2.toArray.size = its2.length := by simp
    have t3 : its3.toArray.size = its3.length := by simp
    refine wpAny_pyNext_zipD3_end D (Draws.list hh i1 a n1 its1.toArray) (Draws.tuple hh i2 b n2 its2.toArray) (Draws.tuple hh i3 d n3 its3.toArray) hz hTI hTO ⟨h1, p1.isList⟩ ⟨h2, p2⟩ ⟨h3, p3⟩ (by omega) (by omega) (by omega) (by omega) fun h' tk hk => ⟨rfl, ?_⟩
    refine I.turnedL (t' := tk) (ch := [z, TI, TO, i1, i2, i3]) (fun q o hb e => ?_) hf
    have ne : ∀ r ∈ [z, TI, TO, i1, i2, i3], q ≠ r := fun r hr e => hb (e ▸ hr)
    exact hk q o (ne z (by simp)) (ne TO (by simp)) (ne i1 (by simp)) (ne i2 (by simp)) (ne i3 (by simp)) e
  self := fun _ _ _ _ _ ⟨isz, _⟩ q => wpAny_pyIter_zip isz q
def iZip3 (K : PySem.W.Frag) (ta : TA) : TI := fun σ H R => ta σ H fun vs H1 => ∃ a b d xs ys zs, vs = [.ref a, .ref b, .ref d] ∧ SqL K H1 a xs ∧ SqT K H1 b ys ∧ SqT K H1 d zs ∧ R (Itz3 K a b d) H1
theorem pi_zip3 {X : Cx} {e e2 e3 : Expr} {ta : TA} {p pos tpos : Pos} {elts : List Expr} {kk : Nat} (hg : Gl X "zip") (hm : X.mg "zip" = none) (ha : PA X [e, e2, e3] ta)
    (hs : starEach [e, e2, e3] X.env = (false, eval e X.env) :: starEach [e2, e3] X.env := by rfl) (hpl : (backTo pos (starEach [e2, e3] X.env)).any (·.1) = false := by rfl) :
    PI X (.Tuple elts kk tpos) (.Call (.Name "zip" p) [e, e2, e3] [] pos) (iZip3 X.K ta) := by
  constructor
  intro pins s σ H R I h
  have args := ha.run pos pins s σ H _ I h
  refine Call_ (ld_blt I hg hm PyProof.Rows.boot_zip ?_)
  refine PyProof.Rows.callWith_type1 (thn args ?_) hs hpl
  rintro us s1 ⟨vs, H1, I1, r1, q1⟩
  obtain ⟨a, b, d, xs, ys, zs, ex, qx, qy, qz, q⟩ := q1
  subst ex
  cases r1 with
  | cons ra rr =>
    cases rr with
    | cons rb rr =>
      cases rr with
      | cons rd rr =>
        cases rr
        cases ra
        cases rb
        cases rd
        obtain ⟨its1, rv1, p1, _⟩ := I1.list qx
        obtain ⟨its2, rv2, p2, _⟩ := I1.tuple qy
        obtain ⟨its3, rv3, p3, _⟩ := I1.tuple qz
        have aIn : a < s1.heap.objs.size := p1.lt
        have lb : b < s1.heap.objs.size := by
          obtain ⟨o, e, _⟩ := p2
          exact Heap.lt_size e
        have ld : d < s1.heap.objs.size := by
          obtain ⟨o, e, _⟩ := p3
          exact Heap.lt_size e
        refine zip_begins3 (begins_list a its1.toArray) (begins_tuple b its2.toArray) (begins_tuple d its3.toArray) p1.isList p2 p3 fun h' hz hTI hTO g1 g2 g3 hsz hk => wpAny_pyIter_zip hz ?_
        have kept := I1.kept (t' := s1.toks) hk
        have D := zip_sep3 (N := s1.heap.objs.size) (fp1 := [a]) (fp2 := [b]) (fp3 := [d]) (by simpa using aIn) (by simpa using lb) (by simpa using ld)
        refine ⟨s1.heap.objs.size + 5, [s1.heap.objs.size + 5, s1.heap.objs.size + 3, s1.heap.objs.size + 4, s1.heap.objs.size, s1.heap.objs.size + 1, s1.heap.objs.size + 2], _, _, H1, rfl, kept, turn_zip3 D (Nat.ne_of_lt aIn) (Nat.ne_of_lt (Nat.lt_succ_of_lt lb)) (Nat.ne_of_lt (Nat.lt_succ_of_lt (Nat.lt_succ_of_lt ld))), ⟨hz, hTI, ⟨_, _, _, hTO⟩, ⟨_, g1, rfl, rfl⟩, ⟨_, g2, rfl, rfl⟩, ⟨_, g3, rfl, rfl⟩⟩, fun q' hq => ?_, q⟩
        have hle : s1.heap.objs.size ≤ q' := by
          rcases six hq with e | e | e | e | e | e <;> rw [e]
          · exact Nat.le_add_right _ _
          · exact Nat.le_add_right _ _
          · exact Nat.le_add_right _ _
          · exact Nat.le_refl _
          · exact Nat.le_add_right _ _
          · exact Nat.le_add_right _ _
        have free := I1.hok.fresh hle
        exact I1.fpOk hle free
/-- the loop, all three of one length -/
theorem for_zip3 {K : PySem.W.Frag} {a b d : Addr} {xs ys zs : List V} {g : TG} {tb : TS} {D : Ends} {σ : L2.St} {H : Hp} (hl : xs.length = ys.length) (hl2 : xs.length = zs.length) (Pv : Nat → L2.St → Hp → Prop) (h0 : Pv 0 σ H)
    (hq : ∀ i σ H, Pv i σ H → SqL K H a xs ∧ SqT K H b ys ∧ SqT K H d zs)
    (hs : ∀ (i : Nat) (x y z : V) (T : Addr) (σ : L2.St) (H : Hp), xs[i]? = some x → ys[i]? = some y → zs[i]? = some z → Pv i σ H → H T = none → g (.ref T) σ (upd H T (.tup [x, y, z])) fun σ2 H2 => tb { D with nx := Pv (i + 1), ct := Pv (i + 1), bk := D.nx } σ2 H2)
    (hd : ∀ σ H, Pv xs.length σ H → D.nx σ H) :
    ∃ W : Nat → Nat → L2.St → Hp → Prop, (∃ m, W 0 m σ H) ∧ ∀ i m σ H, W i m σ H → ((Itz3 K a b d).stop i H ∧ D.nx σ H) ∨ ((Itz3 K a b d).go i H ∧ ∃ N : L2.St → Hp → Prop, (∀ σ' H', N σ' H' → ∃ m', m' < m ∧ W (i + 1) m' σ' H') ∧ ∀ v H', (Itz3 K a b d).yld i H v H' → g v σ H' fun σ2 H2 => tb { D with nx := N, ct := N, bk := D.nx } σ2 H2) := by
  refine ⟨fun n m τ G => n ≤ xs.length ∧ m = xs.length - n ∧ Pv n τ G, ⟨xs.length, Nat.zero_le _, rfl, h0⟩, ?_⟩
  rintro i m σ H ⟨hi, rfl, p⟩
  obtain ⟨qx, qy, qz⟩ := hq i σ H p
  by_cases hlt : i < xs.length
  · have gx : xs[i]? = some xs[i] := List.getElem?_eq_getElem hlt
    have inY : i < ys.length := by omega
    have inZ : i < zs.length := by omega
    have gy : ys[i]? = some ys[i] := List.getElem?_eq_getElem inY
    have gz : zs[i]? = some zs[i] := List.getElem?_eq_getElem inZ
    refine .inr ⟨⟨xs, ys, zs, _, _, _, qx, qy, qz, gx, gy, gz⟩, Pv (i + 1), fun σ' H' p' => ⟨xs.length - (i + 1), by omega, hlt, rfl, p'⟩, fun v H' y => ?_⟩
    obtain ⟨T, x', y', z', rfl, hT, rfl, f1, f2, f3⟩ := y
    exact hs i x' y' z' T σ H (f1 xs qx) (f2 ys qy) (f3 zs qz) p hT
  · obtain rfl : i = xs.length := by omega
    exact .inl ⟨⟨xs, ys, zs, qx, qy, qz, Nat.le_refl _, by omega, by omega, Or.inl rfl⟩, hd σ H p⟩
end LC
namespace LC
open PySem PySem.Spec PyProof.Rows L2
/-! ### the yard -/
structure YardAt (c : Cs) (H : Hp) (y pa ka oa : Addr) (w : Sw95.Wood) : Prop where
  obj : At c.Y H y (yardF pa ka oa)
  parts : PartsAt c H pa w.stem
  kinds : KindsAt c H ka w.kinds
  ords : IntsAt H oa (w.kinds.map fun z => z.most)
  pk : pa ≠ ka
  po : pa ≠ oa
  ko : ka ≠ oa
theorem YardAt.same {c : Cs} {H H' : Hp} {y pa ka oa : Addr} {w : Sw95.Wood} (h : YardAt c H y pa ka oa w) (s : Same H H') : YardAt c H' y pa ka oa w :=
  ⟨h.obj.same s, h.parts.same s, h.kinds.same s, s _ _ h.ords, h.pk, h.po, h.ko⟩
/-- what holds of the wood between two calls -/
structure WOk (w : Sw95.Wood) : Prop where
  stem : POk w.stem
  kinds : KOk w.kinds
  most : ∀ z ∈ w.kinds, z.most ≤ 4
/-- a call has been answered: the yard is that of w', a new list holds the answer, all but the yard's own stands -/
def Ans (c : Cs) (H : Hp) (y pa ka oa : Addr) (w' : Sw95.Wood) (out : List Int) (Q : VK) : Prop :=
  ∀ (H' : Hp) (pa' r : Addr), YardAt c H' y pa' ka oa w' → (pa' = pa ∨ H pa' = none) → (∀ b o, H b = some o → b ≠ y → b ≠ ka → b ≠ oa → H' b = some o) → H r = none → H' r = some (.lst (out.map V.int)) → Q (.ref r) H'
theorem Ans.same {c : Cs} {H H' : Hp} {y pa ka oa r : Addr} {w : Sw95.Wood} {out : List Int} {Q : VK} (k : Ans c H y pa ka oa w out Q) (Y : YardAt c H y pa ka oa w) (s : Same H H') (nr : H' r = none) : Q (.ref r) (upd H' r (.lst (out.map V.int))) :=
  k _ pa r (Y.same (Same.grow s (s.free nr))) (.inl rfl) (fun b o e _ _ _ => Same.grow s (s.free nr) _ _ e) (s.free nr) upd_same
abbrev stepOf (w : Sw95.Wood) (q : Sw95.Call) : List Int := Sw95Neutral.out (Sw95.step w q).2
section
variable {P : Program} {w : World} {K : PySem.W.Frag} {mg : Str → Option Value} {base : Heap} {c : Cs}
/-! ### is_kind -/
def inB : List Int → List Int → List Int → Bool
  | x :: xs, l :: ls, m :: ms => !(decide (x < l)) && (!(decide (m < x)) && inB xs ls ms)
  | _, _, _ => true
def lows : List Int := [1, 0, 0, 0, 0]
def highs : List Int := [40, 100, 9, 1000, 4]
def spIsKind : Sp := fun vs H Q _ => ∃ (l : Addr) (ns : List Int), vs = [.ref l] ∧ H l = some (.lst (ns.map V.int)) ∧ ns.length = 5 ∧ ∀ H', Same H H' → Q (.bl (inB ns lows highs)) H'
theorem scIsKind : FnScope ["numbers", "number", "least", "most"] ["numbers"] (defScope sIsKind) := ⟨rfl, rfl, rfl, by decide +kernel, rfl, by decide +kernel, by decide +kernel⟩
theorem ok_isKind {f : Addr} {fd : FuncData} (F : Fun K "is_kind" "is_kind" sIsKind f fd) (T : Txt K mg c) : FnOk P w K mg base CX0 1 f fd ["numbers"] spIsKind := by
  refine F.ok scIsKind (fun vs H Q E h => ?_) (fun cdv A outer s H vs Q E hr h => ?_)
  · obtain ⟨l, ns, rfl, _⟩ := h
    rfl
  · obtain ⟨l, ns, rfl, hl, h5, k⟩ := h
    refine ⟨_, pss_cons (ps_for PassesOwn.never rfl (pi_zip3 (by rfl) T.zip (pa_cons (pv 0) (pa_cons (pe_k (by rfl) T.cLeast) (pa_cons (pe_k (by rfl) T.cLargest) pa_nil))))
        (pg_tup rfl (pgs_cons (pg_name (i := 1) scIsKind.nd rfl (Or.inl rfl)) (pgs_cons (pg_name (i := 2) scIsKind.nd rfl (Or.inl rfl)) (pgs_cons (pg_name (i := 3) scIsKind.nd rfl (Or.inl rfl)) pgs_nil))))
        (pss_one (ps_if (PW.pt (pw_or (pt_cmpR op_lt (pv 1) (pv 2) (nomark _)) (pw_or1 (pt_cmpR op_gt (pv 1) (pv 3) (nomark _))))) (pss_one (ps_ret pe_bl)) pss_nil)))
      (pss_one (ps_ret pe_bl)), ?_⟩
    refine ⟨_, rfl, l, c.lo, c.hi, _, _, _, rfl, SqL.of hl, T.tLeast H, T.tLargest H, ?_⟩
    refine for_zip3 (K := K) (a := l) (b := c.lo) (d := c.hi) (xs := ns.map V.int) (ys := lows.map V.int) (zs := highs.map V.int) (by rw [List.length_map, h5]; rfl) (by rw [List.length_map, h5]; rfl)
      (fun i σ H' => ∃ v1 v2 v3 : Option V, σ = [some (.ref l), v1, v2, v3] ∧ Same H H' ∧ inB ns lows highs = inB (ns.drop i) (lows.drop i) (highs.drop i)) ⟨none, none, none, rfl, Same.refl H, rfl⟩ (fun i σ H' ⟨_, _, _, _, s, _⟩ => ⟨SqL.of (s _ _ hl), T.tLeast _, T.tLargest _⟩) ?_ ?_
    · rintro i x y z t σ H' hx hy hz ⟨v1, v2, v3, rfl, s5, eB⟩ nt
      obtain ⟨n, hn, rfl⟩ := map_at hx
      obtain ⟨lo, hlo, rfl⟩ := map_at hy
      obtain ⟨hi, hhi, rfl⟩ := map_at hz
      rw [drop_at hn, drop_at hlo, drop_at hhi, inB] at eB
      have kf : inB ns lows highs = false → Q (.bl false) (upd H' t (.tup [.int n, .int lo, .int hi])) := fun e => by
        have q := k _ (Same.grow s5 (s5.free nt) (o := .tup [.int n, .int lo, .int hi]))
        rw [e] at q
        exact q
      refine ⟨t, _, rfl, SqT.of upd_same, rfl, ?_⟩
      refine ⟨_, _, rfl, _, _, rfl, _, _, rfl, rfl, ?_⟩
      refine ⟨_, rfl, _, rfl, _, _, rfl, rfl, _, rfl, ?_⟩
      by_cases h1 : n < lo
      · refine ifT (decide_eq_true h1) (iteT (kf ?_))
        rw [eB, decide_eq_true h1]
        rfl
      · refine ifF (decide_eq_false h1) ?_
        refine ⟨_, rfl, _, rfl, _, _, rfl, rfl, _, rfl, ?_⟩
        by_cases h2 : hi < n
        · refine ifT (decide_eq_true h2) (kf ?_)
          rw [eB, decide_eq_true h2, decide_eq_false h1]
          rfl
        · refine ifF (decide_eq_false h2) ?_
          refine ⟨_, _, _, rfl, Same.grow s5 (s5.free nt), ?_⟩
          rw [eB, decide_eq_false h2, decide_eq_false h1]
          rfl
    · rintro σ H' ⟨v1, v2, v3, rfl, s5, eB⟩
      rw [List.length_map, List.drop_length] at eB
      have q := k H' s5
      rw [eB] at q
      exact q
theorem inB_kind (a b d e g : Nat) : inB [(a : Int), b, d, e, g] lows highs = Sw95.kindOk ⟨a, b, d, e, g⟩ := by
  have e1 : Sw95.STEM = 40 := rfl
  have e2 : Sw95.THICK = 100 := rfl
  have e3 : Sw95.GRADE = 9 := rfl
  have e4 : Sw95.PRICE = 1000 := rfl
  have e5 : Sw95.MOST = 4 := rfl
  unfold Sw95.kindOk
  rw [Bool.eq_iff_iff]
  simp only [lows, highs, inB, Bool.and_eq_true, Bool.not_eq_true', decide_eq_false_iff_not, decide_eq_true_eq, Bool.and_true]
  omega
end
end LC
namespace LC
open PySem PySem.Spec PyProof.Rows L2
theorem Objs.set {α : Type} {R : Hp → Addr → α → Prop} {H : Hp} {as : List Addr} {xs : List α} (h : Objs R H as xs) {k : Nat} {x y : α} (hx : xs[k]? = some x) (m : ∀ a, R H a x → R H a y) : Objs R H as (xs.set k y) := by
  refine ⟨by rw [List.length_set]; exact h.1, fun i a z ha hz => ?_⟩
  by_cases e : k = i
  · subst e
    have hk : k < xs.length := (List.getElem?_eq_some_iff.mp hx).1
    rw [List.getElem?_set_self hk] at hz
    cases hz
    exact m a (h.2 k a x ha hx)
  · rw [List.getElem?_set_ne e] at hz
    exact h.2 i a z ha hz
theorem AtObjs.upd {C : Addr} {α : Type} {fs : α → List (Str × V)} {H : Hp} {as : List Addr} {xs : List α} {l : Addr} {o : HO} {us : List V} (h : Objs (fun H a x => At C H a (fs x)) H as xs) (hl : H l = some (.lst us)) : Objs (fun H a x => At C H a (fs x)) (L2.upd H l o) as xs :=
  h.mono fun _ _ r => At.upd r hl
section
variable {P : Program} {w : World} {K : PySem.W.Frag} {mg : Str → Option Value} {base : Heap} {c : Cs}
/-! ### change_order -/
def spOrder (c : Cs) : Sp := fun vs H Q _ => ∃ (y pa ka oa : Addr) (w : Sw95.Wood) (k n : Nat), vs = [.ref y, .int k, .int n] ∧ YardAt c H y pa ka oa w ∧ Ans c H y pa ka oa (Sw95.step w (.order k n)).1 (stepOf w (.order k n)) Q
theorem scOrder : FnScope ["yard", "number", "many", "before"] ["yard", "number", "many"] (defScope sOrder) := ⟨rfl, rfl, rfl, by decide +kernel, rfl, by decide +kernel, by decide +kernel⟩
theorem ok_order {f : Addr} {fd : FuncData} (F : Fun K "change_order" "change_order" sOrder f fd) (T : Txt K mg c) : FnOk P w K mg base CX0 1 f fd ["yard", "number", "many"] (spOrder c) := by
  refine F.ok scOrder (fun vs H Q E h => ?_) (fun cdv A outer s H vs Q E hr h => ?_)
  · obtain ⟨y, pa, ka, oa, wd, k, n, rfl, _⟩ := h
    rfl
  · obtain ⟨y, pa, ka, oa, wd, j, n, rfl, Y, k⟩ := h
    refine ⟨_, pss_cons (ps_if (pt_cmpR op_ge (pv 1) (pe_callB call_len_seq (by rfl) T.len PySem.boot_len (pa_cons (pe_fld (pv 0) rfl) pa_nil)) (nomark _)) (pss_one (ps_ret (pe_lst (pa_cons (pe_k (by rfl) T.cNoKind) pa_nil)))) pss_nil)
      (pss_cons (ps_if (pt_cmpR op_gt (pv 2) (pe_k (by rfl) T.cMost) (nomark _)) (pss_one (ps_ret (pe_lst (pa_cons (pe_k (by rfl) T.cTold) pa_nil)))) pss_nil)
      (pss_cons (ps_set (i := 3) scOrder.nd rfl (Or.inl rfl) (pe_ix ix_list (pe_fld (pv 0) rfl) (pv 1) (fun _ _ => rfl)))
      (pss_cons (ps_asg (pv 2) (pg_sub (pe_fld (pv 0) rfl) (pv 1) set_list))
      (pss_one (ps_ret (pe_lst (pa_cons (pv 3) pa_nil))))))), ?_⟩
    obtain ⟨dy, hy⟩ := Y.obj
    obtain ⟨kas, hka, hko⟩ := id Y.kinds
    have hlen : ((kas.map V.ref).length : Int) = (wd.kinds.length : Int) := by rw [List.length_map, hko.1]
    refine ⟨_, rfl, _, rfl, y, c.Y, dy, _, _, rfl, hy, T.clY, T.yK, lk_1, ka, _, rfl, .inl (SqL.of hka), _, _, rfl, rfl, _, rfl, ?_⟩
    by_cases hj : j < wd.kinds.length
    · refine ifF (decide_eq_false (by rw [hlen]; omega)) ?_
      have hz : wd.kinds[j]? = some wd.kinds[j] := List.getElem?_eq_getElem hj
      generalize wd.kinds[j] = z at hz
      refine ⟨_, rfl, _, _, rfl, rfl, _, rfl, ?_⟩
      by_cases h4 : n ≤ 4
      · refine ifF (decide_eq_false (by omega)) ?_
        have eS := step_order (n := n) hz h4
        unfold stepOf at k
        rw [eS] at k
        have ho : (wd.kinds.map fun z => z.most)[j]? = some z.most := by rw [List.getElem?_map, hz]; rfl
        refine ⟨_, rfl, y, c.Y, dy, _, _, rfl, hy, T.clY, T.yO, lk_2, _, rfl, oa, _, _, _, rfl, rfl, SqL.of Y.ords, nat_at ho, ?_⟩
        refine ⟨_, rfl, _, rfl, y, c.Y, dy, _, _, rfl, hy, T.clY, T.yO, lk_2, _, rfl, oa, _, _, j, rfl, rfl, Y.ords, ?_, ?_⟩
        · unfold ixN
          rw [if_pos (by omega), List.length_map, List.length_map, if_pos (by omega), Int.toNat_natCast]
        refine ⟨_, rfl, (by show 1 ≤ sizeLine; decide), fun r nr => ?_⟩
        have nro : r ≠ oa := fun q => by
          rw [q, upd_same] at nr
          cases nr
        have nr0 : H r = none := by
          rw [upd_ne nro] at nr
          exact nr
        have nyo : y ≠ oa := ne_of hy Y.ords (by intro q; cases q)
        have fr : ∀ b o, H b = some o → b ≠ oa → (upd (upd H oa (.lst ((List.map (fun (n : Nat) => V.int (n : Int)) (wd.kinds.map fun z => z.most)).set j (V.int n)))) r (.lst [V.int (z.most : Nat)])) b = some o := fun b o e nb => by
          rw [upd_ne (ne_of_none e nr0), upd_ne nb]
          exact e
        refine k _ pa r ⟨⟨dy, fr _ _ hy nyo⟩, ?_, ?_, ?_, Y.pk, Y.po, Y.ko⟩ (.inl rfl) (fun b o e _ _ nb => fr b o e nb) nr0 upd_same
        · obtain ⟨pas, hpa, hpo⟩ := Y.parts
          refine ⟨pas, fr _ _ hpa Y.po, hpo.mono fun a x q => ?_⟩
          obtain ⟨dx, e⟩ := q
          exact ⟨dx, fr _ _ e (ne_of e Y.ords (by intro q; cases q))⟩
        · refine ⟨kas, fr _ _ hka Y.ko, Objs.set (x := z) (hko.mono fun a x q => ?_) hz fun a q => q⟩
          obtain ⟨dx, e⟩ := q
          exact ⟨dx, fr _ _ e (ne_of e Y.ords (by intro q; cases q))⟩
        · show (upd (upd H oa _) r _) oa = _
          rw [upd_ne nro.symm, upd_same, List.map_set, List.map_set]
      · refine ifT (decide_eq_true (by omega)) ?_
        have eS := step_order_big (n := n) hz (Nat.lt_of_not_le h4)
        unfold stepOf at k
        rw [eS] at k
        exact ⟨(by show 1 ≤ sizeLine; decide), fun r nr => Ans.same k Y (Same.refl H) nr⟩
    · refine ifT (decide_eq_true (by rw [hlen]; omega)) ?_
      have eS := step_order_none (n := n) (List.getElem?_eq_none (Nat.le_of_not_lt hj))
      unfold stepOf at k
      rw [eS] at k
      exact ⟨(by show 1 ≤ sizeLine; decide), fun r nr => Ans.same k Y (Same.refl H) nr⟩
/-! ### add_kind -/
def spAddKind (c : Cs) : Sp := fun vs H Q _ => ∃ (y nl pa ka oa : Addr) (w : Sw95.Wood) (a b d e g : Nat), vs = [.ref y, .ref nl] ∧ YardAt c H y pa ka oa w ∧ WOk w ∧ IntsAt H nl [a, b, d, e, g] ∧ nl ≠ ka ∧ nl ≠ oa ∧ Ans c H y pa ka oa (Sw95.step w (.kind ⟨a, b, d, e, g⟩)).1 (stepOf w (.kind ⟨a, b, d, e, g⟩)) Q
theorem scAddKind : FnScope ["yard", "numbers"] ["yard", "numbers"] (defScope sAddKind) := ⟨rfl, rfl, rfl, by decide +kernel, rfl, by decide +kernel, by decide +kernel⟩
theorem ok_addKind {f : Addr} {fd : FuncData} (F : Fun K "add_kind" "add_kind" sAddKind f fd) (T : Txt K mg c) (GK : Cal P w K mg base 1 "is_kind" ["numbers"] spIsKind)
    (GM : Mkr P w K mg base "Kind" c.K ["self", "length", "thickness", "grade", "price"] (spInit c.K 4 (fs4 "length" "thickness" "grade" "price"))) : FnOk P w K mg base CX0 3 f fd ["yard", "numbers"] (spAddKind c) := by
  refine F.ok scAddKind (fun vs H Q E h => ?_) (fun cdv A outer s H vs Q E hr h => ?_)
  · obtain ⟨y, nl, pa, ka, oa, wd, a, b, d, e, g, rfl, _⟩ := h
    rfl
  · obtain ⟨y, nl, pa, ka, oa, wd, a, b, d, e, g, rfl, Y, wok, hn, nlk, nlo, k⟩ := h
    refine ⟨_, pss_cons (ps_if (pt_not (pt_val (pe_cl GK hr (by decide) (by rfl) (pa_cons (pv 1) pa_nil)))) (pss_one (ps_ret (pe_lst (pa_cons (pe_k (by rfl) T.cTold) pa_nil)))) pss_nil)
      (pss_cons (ps_if (pt_cmpR op_eq (pe_callB call_len_seq (by rfl) T.len PySem.boot_len (pa_cons (pe_fld (pv 0) rfl) pa_nil)) (pe_k (by rfl) T.cKinds) (nomark _)) (pss_one (ps_ret (pe_lst (pa_cons (pe_k (by rfl) T.cNoMore) pa_nil)))) pss_nil)
      (pss_cons (ps_expr (pe_bm PySem.F.plainAttrs_list PySem.F.slot_list_append PySem.F.type_list_append mt_append (pe_fld (pv 0) rfl) (pa_cons (pe_mk GM hr (by decide) (by rfl)
        (pa_cons (pe_ix ix_list (pv 1) pe_int (fun _ _ => rfl)) (pa_cons (pe_ix ix_list (pv 1) pe_int (fun _ _ => rfl)) (pa_cons (pe_ix ix_list (pv 1) pe_int (fun _ _ => rfl)) (pa_cons (pe_ix ix_list (pv 1) pe_int (fun _ _ => rfl)) pa_nil))))) pa_nil)))
      (pss_cons (ps_expr (pe_bm PySem.F.plainAttrs_list PySem.F.slot_list_append PySem.F.type_list_append mt_append (pe_fld (pv 0) rfl) (pa_cons (pe_ix ix_list (pv 1) pe_int (fun _ _ => rfl)) pa_nil)))
      (pss_one (ps_ret (pe_lst (pa_cons (pe_op op_sub (pe_callB call_len_seq (by rfl) T.len PySem.boot_len (pa_cons (pe_fld (pv 0) rfl) pa_nil)) pe_int) pa_nil))))))), ?_⟩
    refine ⟨_, rfl, nl, [(a : Int), b, d, e, g], rfl, hn, rfl, fun H1 s1 => ⟨_, rfl, ?_⟩⟩
    rw [inB_kind]
    cases hok : Sw95.kindOk ⟨a, b, d, e, g⟩ with
    | false =>
      refine ifT rfl ?_
      have eS := step_kind_bad (w := wd) hok
      unfold stepOf at k
      rw [eS] at k
      exact ⟨(by show 1 ≤ sizeLine; decide), fun r nr => Ans.same k Y s1 nr⟩
    | true =>
      refine ifF rfl ?_
      have Y1 := Y.same s1
      obtain ⟨dy, hy⟩ := Y1.obj
      obtain ⟨kas, hka, hko⟩ := id Y1.kinds
      have hlen : ((kas.map V.ref).length : Int) = (wd.kinds.length : Int) := by rw [List.length_map, hko.1]
      refine ⟨_, rfl, y, c.Y, dy, _, _, rfl, hy, T.clY, T.yK, lk_1, ka, _, rfl, .inl (SqL.of hka), rfl, _, rfl, ?_⟩
      have h3 := wok.kinds.1
      by_cases hl3 : wd.kinds.length = 3
      · refine ifT (decide_eq_true (by rw [hlen, hl3]; rfl)) ?_
        have eS := step_kind_full hok hl3
        unfold stepOf at k
        rw [eS] at k
        exact ⟨(by show 1 ≤ sizeLine; decide), fun r nr => Ans.same k Y s1 nr⟩
      · refine ifF (decide_eq_false (fun q => hl3 (by have := V.int.inj q; omega))) ?_
        have eS := step_kind hok (show wd.kinds.length < 3 by omega)
        unfold stepOf at k
        rw [eS] at k
        have hn1 := s1 _ _ hn
        refine ⟨_, rfl, y, c.Y, dy, _, _, rfl, hy, T.clY, T.yK, lk_1, .inl ⟨rfl, _, SqL.of hka⟩, ?_⟩
        refine ⟨_, rfl, nl, _, _, _, rfl, rfl, SqL.of hn1, rfl, _, rfl, nl, _, _, _, rfl, rfl, SqL.of hn1, rfl, _, rfl, nl, _, _, _, rfl, rfl, SqL.of hn1, rfl, _, rfl, nl, _, _, _, rfl, rfl, SqL.of hn1, rfl, ?_⟩
        intro kz dz nkz ndz _
        refine made nkz ndz rfl fun H2 s2 hkz => ⟨rfl, ?_⟩
        have hka2 := s2 _ _ hka
        have hy2 := s2 _ _ hy
        have ho2 := s2 _ _ Y1.ords
        refine ⟨ka, _, _, rfl, rfl, hka2, ?_, ?_⟩
        · rw [List.length_map, hko.1]
          exact line_of (by omega)
        have nyk : y ≠ ka := ne_of hy2 hka2 (by intro q; cases q)
        have nyo : y ≠ oa := ne_of hy2 ho2 (by intro q; cases q)
        refine ⟨_, rfl, y, c.Y, dy, _, .ref oa, rfl, (by rw [upd_ne nyk]; exact hy2), T.clY, T.yO, lk_2, .inl ⟨rfl, _, SqL.of (by rw [upd_ne Y.ko.symm]; exact ho2)⟩, _, rfl, nl, _, _, _, rfl, rfl, SqL.of (by rw [upd_ne nlk]; exact s2 _ _ hn1), rfl, oa, _, _, rfl, rfl, (by rw [upd_ne Y.ko.symm]; exact ho2), ?_, ?_⟩
        · rw [List.length_map, List.length_map]
          exact line_of (by omega)
        refine ⟨_, rfl, y, c.Y, dy, _, _, rfl, (by rw [upd_ne nyo, upd_ne nyk]; exact hy2), T.clY, T.yK, lk_1, ka, _, rfl, .inl (SqL.of (by rw [upd_ne Y.ko, upd_same])), _, _, rfl, rfl, (by show 1 ≤ sizeLine; decide), fun r nr => ?_⟩
        have nro : r ≠ oa := fun q => by
          rw [q, upd_same] at nr
          cases nr
        rw [upd_ne nro] at nr
        have nrk : r ≠ ka := fun q => by
          rw [q, upd_same] at nr
          cases nr
        rw [upd_ne nrk] at nr
        have s12 : Same H H2 := s1.trans s2
        generalize hH3 : (upd (upd (upd H2 ka (.lst (kas.map V.ref ++ [V.ref kz]))) oa (.lst ((List.map (fun (n : Nat) => V.int (n : Int)) (wd.kinds.map fun z => z.most)) ++ [V.int g]))) r (.lst [V.int (((kas.map V.ref ++ [V.ref kz]).length : Nat) - 1)])) = H3
        have fr : ∀ b o, H2 b = some o → b ≠ ka → b ≠ oa → H3 b = some o := fun b o e nb nb2 => by
          rw [← hH3, upd_ne (ne_of_none e nr), upd_ne nb2, upd_ne nb]
          exact e
        have frA : ∀ {C : Addr} {b : Addr} {fs : List (Str × V)}, At C H2 b fs → At C H3 b fs := fun ⟨dx, e⟩ => ⟨dx, fr _ _ e (ne_of e hka2 (by intro q; cases q)) (ne_of e ho2 (by intro q; cases q))⟩
        refine k _ pa r ⟨frA ⟨dy, hy2⟩, ?_, ?_, ?_, Y.pk, Y.po, Y.ko⟩ (.inl rfl) (fun b o e _ nb nb2 => fr b o (s12 _ _ e) nb nb2) (s12.free nr) ?_
        · obtain ⟨pas, hpa, hpo⟩ := Y.parts
          exact ⟨pas, fr _ _ (s12 _ _ hpa) Y.pk Y.po, hpo.mono fun a x q => frA (q.same s12)⟩
        · refine ⟨kas ++ [kz], ?_, Objs.snoc (hko.mono fun a x q => frA (q.same s2)) (frA hkz)⟩
          rw [← hH3, upd_ne nrk.symm, upd_ne Y.ko, upd_same, List.map_append]
          rfl
        · show H3 oa = _
          rw [← hH3, upd_ne nro.symm, upd_same, List.map_append, List.map_append]
          rfl
        · rw [← hH3, upd_same]
          have el : (((kas.map V.ref ++ [V.ref kz]).length : Nat) : Int) - 1 = ((wd.kinds.length : Nat) : Int) := by
            rw [List.length_append, List.length_map, hko.1]
            simp
          rw [el]
          rfl
end
end LC
namespace LC
open PySem PySem.Spec PyProof.Rows L2
theorem flat_len : ∀ ps : List Sw95.Part, (flatP ps).length = 2 * ps.length
  | [] => rfl
  | p :: l => by
    show (flatP l).length + 1 + 1 = 2 * (l.length + 1)
    rw [flat_len l]
    omega
theorem flat_at : ∀ {ps : List Sw95.Part} {i : Nat} {p : Sw95.Part}, ps[i]? = some p → (flatP ps)[2 * i]? = some p.thick ∧ (flatP ps)[2 * i + 1]? = some p.grade
  | [], i, p, h => by simp at h
  | q :: l, 0, p, h => by
    have e : q = p := Option.some.inj h
    subst e
    exact ⟨rfl, rfl⟩
  | q :: l, i + 1, p, h => by
    have ih := flat_at (ps := l) (i := i) (p := p) h
    rw [show 2 * (i + 1) = 2 * i + 1 + 1 by omega]
    exact ih
theorem small_two : ∀ m : Fin 61, Builtin.Range.small 0 ((2 * m.val : Nat) : Int) 2 = true := by decide +kernel
theorem rg_two (m : Nat) (h : m ≤ 60) : RgC 0 ((2 * m : Nat) : Int) 2 m := by
  refine ⟨by decide, by decide, small_two ⟨m, by omega⟩, ?_⟩
  unfold Builtin.Range.rangeSize
  rw [if_pos (by decide)]
  split <;> omega
/-- a comprehension over a range with a step -/
theorem lc_rangeC {lo e : Int} {n : Nat} {g : TG} {tt : TT} {te : TE} {vs : List Nat} {σ : L2.St} {H1 : Hp} {D : Addr} {Qd : Hp → Prop} (Pv : Nat → Hp → Prop) (h0 : Pv 0 (upd H1 D (.lst [])))
    (hs : ∀ i H, i < n → Pv i H → g (.int (lo + (i : Nat) * e)) (wipe σ vs) H fun σ2 H2 => wipe σ2 vs = wipe σ vs ∧ tt σ2 H2 fun b H3 => if b = true then te σ2 H3 fun y H4 => ∃ acc, H4 D = some (.lst acc) ∧ acc.length < sizeLine ∧ Pv (i + 1) (upd H4 D (.lst (acc ++ [y]))) else Pv (i + 1) H3)
    (hd : ∀ H, Pv n H → Qd H) :
    ∃ W : Nat → Nat → Hp → Prop, (∃ m, W 0 m (upd H1 D (.lst []))) ∧ ∀ i m H, W i m H → ((Itc lo e n).stop i H ∧ Qd H) ∨ ((Itc lo e n).go i H ∧ ∃ Nx : Hp → Prop, (∀ H', Nx H' → ∃ m', m' < m ∧ W (i + 1) m' H') ∧
      ∀ x H', (Itc lo e n).yld i H x H' → g x (wipe σ vs) H' fun σ2 H2 => wipe σ2 vs = wipe σ vs ∧ tt σ2 H2 fun b H3 => if b = true then te σ2 H3 fun y H4 => ∃ acc, H4 D = some (.lst acc) ∧ acc.length < sizeLine ∧ Nx (upd H4 D (.lst (acc ++ [y]))) else Nx H3) := by
  refine ⟨fun i m H => m = n - i ∧ i ≤ n ∧ Pv i H, ⟨n, rfl, Nat.zero_le _, h0⟩, ?_⟩
  rintro i m H ⟨rfl, hi, p⟩
  by_cases hlt : i < n
  · refine .inr ⟨hlt, Pv (i + 1), fun H' p' => ⟨n - (i + 1), by omega, rfl, hlt, p'⟩, ?_⟩
    rintro x H' ⟨rfl, rfl⟩
    exact hs i _ hlt p
  · have e : i = n := by omega
    subst e
    exact .inl ⟨Nat.le_refl _, hd _ p⟩
section
variable {P : Program} {w : World} {K : PySem.W.Frag} {mg : Str → Option Value} {base : Heap} {c : Cs}
def spSetStem (c : Cs) : Sp := fun vs H Q _ => ∃ (y nl pa ka oa : Addr) (w : Sw95.Wood) (ps : List Sw95.Part), vs = [.ref y, .ref nl] ∧ YardAt c H y pa ka oa w ∧ IntsAt H nl (flatP ps) ∧ ps.length ≤ 60 ∧ Ans c H y pa ka oa (Sw95.step w (.stem ps)).1 (stepOf w (.stem ps)) Q
theorem scSetStem : FnScope ["yard", "numbers", "parts", "at"] ["yard", "numbers"] (defScope sSetStem) := ⟨rfl, rfl, rfl, by decide +kernel, rfl, by decide +kernel, by decide +kernel⟩
theorem ok_setStem {f : Addr} {fd : FuncData} (F : Fun K "set_stem" "set_stem" sSetStem f fd) (T : Txt K mg c) (GI : Cal P w K mg base 1 "is_stem" ["parts"] (spIsStem c))
    (GP : Mkr P w K mg base "Part" c.P ["self", "thickness", "grade"] (spInit c.P 2 (fs2 "thickness" "grade"))) : FnOk P w K mg base CX0 3 f fd ["yard", "numbers"] (spSetStem c) := by
  refine F.ok scSetStem (fun vs H Q E h => ?_) (fun cdv A outer s H vs Q E hr h => ?_)
  · obtain ⟨y, nl, pa, ka, oa, wd, ps, rfl, _⟩ := h
    rfl
  · obtain ⟨y, nl, pa, ka, oa, wd, ps, rfl, Y, hn, h60, k⟩ := h
    refine ⟨_, pss_cons (ps_setLc (i := 2) (own := [("at", 3)]) (g := gName 3) (tt := tYes)
        (te := tMake c.P (spInit c.P 2 (fs2 "thickness" "grade")) [] E0 (tCons (tOp (rIxL K) (tVar 1) (tVar 3)) (tCons (tOp (rIxL K) (tVar 1) (tOp (rI0 fun i j => .int (i + j)) (tVar 3) (tC (.int 1)))) tNil)))
        rfl scSetStem.nd rfl rfl (sw_true rfl rfl rfl (by decide +kernel)) (pi_range3 rfl T.range (pa_cons pe_int (pa_cons (pe_callB call_len_seq (by rfl) T.len PySem.boot_len (pa_cons (pv 1) pa_nil)) (pa_cons pe_int pa_nil))))
        (blkOk_by (N := ["yard", "numbers", "parts", "at"]) (sc := defScope sSetStem) (by decide +kernel)) (fun _ _ _ _ _ => pg_name (i := 3) scSetStem.nd rfl (Or.inl rfl)) (fun _ _ _ _ _ => pts_nil)
        (fun _ _ _ _ _ => by exact pe_mk GP hr (by decide) (by rfl) (pa_cons (pe_ix ix_list (pv 1) (pv 3) (fun _ _ => rfl)) (pa_cons (pe_ix ix_list (pv 1) (pe_op op_add (pv 3) pe_int) (fun _ _ => rfl)) pa_nil))))
      (pss_cons (ps_if (pt_not (pt_val (pe_cl GI hr (by decide) (by rfl) (pa_cons (pv 2) pa_nil)))) (pss_one (ps_ret (pe_lst (pa_cons (pe_k (by rfl) T.cTold) pa_nil)))) pss_nil)
      (pss_cons (ps_fld (pv 0) (pv 2) rfl)
      (pss_one (ps_ret (pe_lst (pa_cons (pe_callB call_len_seq (by rfl) T.len PySem.boot_len (pa_cons (pv 2) pa_nil)) pa_nil)))))), ?_⟩
    have hlen : (((flatP ps).map fun (n : Nat) => V.int (n : Int)).length : Int) = ((2 * ps.length : Nat) : Int) := by rw [List.length_map, flat_len]
    refine ⟨_, rfl, nl, _, rfl, .inl (SqL.of hn), 0, _, 2, ps.length, rfl, (by rw [hlen]; exact rg_two _ h60), fun D nD => ?_⟩
    refine lc_rangeC (lo := 0) (e := 2) (n := ps.length) (fun i H' => Same H H' ∧ PartsAt c H' D (ps.take i)) ⟨Same.new nD, [], upd_same, Objs.nil⟩ ?_ ?_
    · rintro i H' hi ⟨s1, as, hD, hO⟩
      have hp : ps[i]? = some ps[i] := List.getElem?_eq_getElem hi
      generalize ps[i] = p at hp
      obtain ⟨f1, f2⟩ := flat_at hp
      refine ⟨rfl, yesT (ifT rfl ?_)⟩
      have hn1 := s1 _ _ hn
      have e1 : (0 : Int) + (i : Nat) * 2 = ((2 * i : Nat) : Int) := by omega
      refine ⟨_, rfl, _, rfl, nl, _, _, _, rfl, rfl, SqL.of hn1, (by rw [e1]; exact nat_at f1), _, rfl, _, rfl, _, _, rfl, rfl, nl, _, _, _, rfl, rfl, SqL.of hn1, (by rw [e1]; exact nat_at f2), ?_⟩
      intro q dq nq ndq _
      refine made nq ndq rfl fun H2 s2 hq => ⟨rfl, ?_⟩
      have hD2 := s2 _ _ hD
      refine ⟨_, hD2, ?_, Same.grow (s1.trans s2) nD, as ++ [q], by rw [upd_same, List.map_append]; rfl, ?_⟩
      · rw [List.length_map, hO.1, List.length_take]
        exact line_of (by omega)
      · rw [take_more hp]
        exact Objs.snoc (hO.mono fun a x r => At.upd (r.same s2) hD2) (At.upd hq hD2)
    · rintro H1 ⟨s1, hP⟩
      rw [List.take_length] at hP
      have Y1 := Y.same s1
      obtain ⟨dy, hy⟩ := Y1.obj
      obtain ⟨as, hD, hO⟩ := id hP
      refine ⟨_, rfl, D, ps, rfl, hP, _, rfl, ?_⟩
      cases hok : stemOk ps with
      | false =>
        refine ifT rfl ?_
        have eS := step_stem_bad (w := wd) hok
        unfold stepOf at k
        rw [eS] at k
        exact ⟨(by show 1 ≤ sizeLine; decide), fun r nr => Ans.same k Y s1 nr⟩
      | true =>
        refine ifF rfl ?_
        have eS := step_stem (w := wd) hok
        unfold stepOf at k
        rw [eS] at k
        have nyD : D ≠ y := ne_of hD hy (by intro q; cases q)
        refine ⟨_, rfl, _, rfl, y, c.Y, dy, _, rfl, hy, T.clY, T.yP, (by show 3 < 1000; decide), ?_⟩
        refine ⟨_, rfl, D, _, rfl, .inl (SqL.of (by rw [upd_ne nyD]; exact hD)), (by show 1 ≤ sizeLine; decide), fun r nr => ?_⟩
        have nry : r ≠ y := fun q => by
          rw [q, upd_same] at nr
          cases nr
        rw [upd_ne nry] at nr
        have fr : ∀ b o, H1 b = some o → b ≠ y → (upd (upd H1 y (.ins c.Y dy (putF "parts" (.ref D) (yardF pa ka oa)))) r (.lst [V.int (((as.map V.ref).length : Nat) : Int)])) b = some o := fun b o e nb => by
          rw [upd_ne (ne_of_none e nr), upd_ne nb]
          exact e
        have nky : ka ≠ y := by
          obtain ⟨_, hk, _⟩ := Y1.kinds
          exact ne_of hk hy (by intro q; cases q)
        have noy : oa ≠ y := ne_of Y1.ords hy (by intro q; cases q)
        have npy : ∀ {C : Addr} {a : Addr} {fs : List (Str × V)}, C ≠ c.Y → At C H1 a fs → a ≠ y := fun hC ⟨dx, e⟩ q => by
          rw [q, hy] at e
          cases e
          exact hC rfl
        refine k _ D r ⟨⟨dy, ?_⟩, ?_, ?_, fr _ _ Y1.ords noy, ?_, ?_, Y.ko⟩ (.inr nD) (fun b o e nb _ _ => fr b o (s1 _ _ e) nb) (s1.free nr) ?_
        · rw [upd_ne nry.symm, upd_same]
          exact congrArg (fun q => some (HO.ins c.Y dy q)) put_here
        · refine ⟨as, fr _ _ hD nyD, hO.mono fun a x q => ?_⟩
          have na := npy T.pY q
          obtain ⟨dx, e⟩ := q
          exact ⟨dx, fr _ _ e na⟩
        · obtain ⟨kas, hka, hko⟩ := Y1.kinds
          refine ⟨kas, fr _ _ hka nky, hko.mono fun a x q => ?_⟩
          have na := npy T.kY q
          obtain ⟨dx, e⟩ := q
          exact ⟨dx, fr _ _ e na⟩
        · obtain ⟨_, hk, _⟩ := Y.kinds
          exact (ne_of_none hk nD).symm
        · exact (ne_of_none Y.ords nD).symm
        · rw [upd_same, List.length_map, hO.1]
          rfl
end
end LC
namespace LC
open PySem PySem.Spec PyProof.Rows L2
theorem at_back {α : Type} {xs : List α} {v : α} {n : Nat} (hn : xs.length = n) (h1 : 1 ≤ n) (h : xs[n - 1]? = some v) : atI xs (-1) = some v := by
  show (ixN xs.length (-1)).bind (fun j => xs[j]?) = some v
  unfold ixN
  rw [hn, if_neg (by decide), if_pos (by omega), show ((-1 : Int) + (n : Int)).toNat = n - 1 by omega]
  exact h
theorem ref_back {as : List Addr} {a : Addr} {n : Nat} (h : as[n - 1]? = some a) (hn : as.length = n) (h1 : 1 ≤ n) : atI (as.map V.ref) (-1) = some (.ref a) := by
  refine at_back (n := n) (by rw [List.length_map]; exact hn) h1 ?_
  rw [List.getElem?_map, h]
  rfl
/-- the outlook of the whole stem, out of the whole stock -/
theorem TblAt.whole {c : Cs} {ks : List Sw95.Kind} {ps : List Sw95.Part} {os : List Nat} {H : Hp} {t : Addr} (h : TblAt c ks ps os H t 0) :
    ∃ (rs as : List Addr) (ra a : Addr), H t = some (.lst (rs.map V.ref)) ∧ atI (rs.map V.ref) 0 = some (.ref ra) ∧ H ra = some (.lst (as.map V.ref)) ∧ atI (as.map V.ref) (-1) = some (.ref a) ∧ OutAt c ks 0 H a (bestAt ks 0 ps os) := by
  obtain ⟨rs, ht, hl, hrow⟩ := h
  have hj : 0 < rs.length := by omega
  have hS := stepAt_pos os os.length
  obtain ⟨_, as, ha, ho⟩ := hrow 0 rs[0] (Nat.le_refl _) (List.getElem?_eq_getElem hj)
  obtain ⟨a, hn, hr⟩ := ho.get (rowOf_at (ks := ks) (ps := ps) (j := 0) (n := stepAt os os.length - 1) (by omega))
  rw [List.drop_zero, digits_full] at hr
  exact ⟨rs, as, rs[0], a, ht, ref_at (i := 0) (List.getElem?_eq_getElem hj), ha, ref_back hn (by rw [ho.1, rowOf_len]) hS, hr⟩
/-- the numbers of a cutting's logs, as they are answered -/
def logsOut (cs : List (Nat × Nat)) : List Int := cs.flatMap fun y => [2, (y.1 : Int), (y.2 : Int)]
theorem best_out (w : Sw95.Wood) : stepOf w .best = (w.best.value : Int) :: 2 :: (w.best.many : Int) :: ((w.stem.length - cutLen w.kinds w.best.cutting : Nat) : Int) :: logsOut w.best.cutting := by
  show (w.best.value : Int) :: (([[w.best.many, w.stem.length - w.cut w.best.cutting]] ++ w.best.cutting.map fun x => [x.1, x.2]).flatMap fun l => (l.length : Int) :: l.map fun (x : Nat) => (x : Int)) = _
  rw [cut_eq, List.flatMap_append, List.flatMap_map]
  rfl
theorem sum_len (ks : List Sw95.Kind) : ∀ cs : List (Nat × Nat), (cs.map fun y => (lenOf ks y.2 : Int)).sum = ((cutLen ks cs : Nat) : Int)
  | [] => rfl
  | y :: cs => by
    rw [List.map_cons, List.sum_cons, sum_len ks cs]
    unfold cutLen
    rw [List.map_cons, List.sum_cons]
    omega
theorem logsOut_len (cs : List (Nat × Nat)) : (logsOut cs).length = 3 * cs.length := by
  unfold logsOut
  induction cs with
  | nil => rfl
  | cons y cs ih =>
    rw [List.flatMap_cons, List.length_append, ih, List.length_cons]
    simp
    omega
section
variable {P : Program} {w : World} {K : PySem.W.Frag} {mg : Str → Option Value} {base : Heap} {c : Cs}
/-! ### count_waste -/
/-- a log from a place to a place -/
def SpanAt (c : Cs) (H : Hp) (a : Addr) (e : Int × Int) : Prop := ∃ n v : Int, At c.L H a (logF e.1 e.2 n v)
theorem Objs.as {α β : Type} {R : Hp → Addr → α → Prop} {S : Hp → Addr → β → Prop} {H : Hp} {as : List Addr} {xs : List α} (h : Objs R H as xs) (g : α → β) (m : ∀ a x, R H a x → S H a (g x)) : Objs S H as (xs.map g) := by
  refine ⟨by rw [List.length_map]; exact h.1, fun i a y ha hy => ?_⟩
  rw [List.getElem?_map] at hy
  cases e : xs[i]? with
  | none => rw [e] at hy; cases hy
  | some x =>
    rw [e] at hy
    have q : g x = y := Option.some.inj hy
    rw [← q]
    exact m a x (h.2 i a x ha e)
def spWaste (c : Cs) : Sp := fun vs H Q _ => ∃ (l ll : Addr) (ps : List Sw95.Part) (es : List (Int × Int)), vs = [.ref l, .ref ll] ∧ PartsAt c H l ps ∧ LstAt (SpanAt c) H ll es ∧ es.length ≤ 100 ∧
  ∀ H', Same H H' → Q (.int ((ps.length : Int) - (es.map fun e => e.2 - e.1).sum)) H'
theorem scWaste : FnScope ["parts", "logs", "log"] ["parts", "logs"] (defScope sWaste) := ⟨rfl, rfl, rfl, by decide +kernel, rfl, by decide +kernel, by decide +kernel⟩
theorem ok_waste {f : Addr} {fd : FuncData} (F : Fun K "count_waste" "count_waste" sWaste f fd) (T : Txt K mg c) : FnOk P w K mg base CX0 1 f fd ["parts", "logs"] (spWaste c) := by
  refine F.ok scWaste (fun vs H Q E h => ?_) (fun cdv A outer s H vs Q E hr h => ?_)
  · obtain ⟨l, ll, ps, es, rfl, _⟩ := h
    rfl
  · obtain ⟨l, ll, ps, es, rfl, ⟨pas, hpa, hpo⟩, ⟨las, hll, hlo⟩, h100, k⟩ := h
    refine ⟨_, pss_one (ps_ret (pe_op op_sub (pe_callB call_len_seq (by rfl) T.len PySem.boot_len (pa_cons (pv 0) pa_nil)) (pe_callB (cr_sum rfl) (by rfl) T.sum (by decide +kernel) (pa_cons
        (pe_lc (own := [("log", 2)]) (g := gName 2) (tt := tYes) (te := tOp (rI0 fun i j => .int (i - j)) (tFld K (tVar 2) "end") (tFld K (tVar 2) "place")) rfl scWaste.nd (pi_list (pv 1))
          (blkOk_by (N := ["parts", "logs", "log"]) (sc := defScope sWaste) (by decide +kernel)) (fun _ _ _ _ _ => pg_name (i := 2) scWaste.nd rfl (Or.inl rfl)) (fun _ _ _ _ _ => pts_nil)
          (fun _ _ _ _ _ => by exact pe_op op_sub (pe_fld (pv 2) rfl) (pe_fld (pv 2) rfl))) pa_nil)))), ?_⟩
    refine ⟨_, rfl, l, _, rfl, .inl (SqL.of hpa), ?_⟩
    refine ⟨_, rfl, ll, rfl, ⟨_, SqL.of hll⟩, fun D nD => ?_⟩
    refine lc_list (K := K) (a := ll) (xs := las.map V.ref) (fun i H' => H' = upd H D (.lst (((es.take i).map fun e => e.2 - e.1).map V.int))) rfl (fun i H' _ e => by rw [e]; exact SqL.of (by rw [upd_ne (ne_of_none hll nD)]; exact hll)) ?_ ?_
    · rintro i x H' hi rfl
      obtain ⟨b, hb', rfl⟩ := map_at hi
      obtain ⟨⟨q1, q2⟩, hq, n, v, dl, hlb⟩ := hlo.at hb'
      dsimp only at hlb
      refine ⟨rfl, yesT (ifT rfl ?_)⟩
      have hlb' := Same.new nD (o := .lst (((es.take i).map fun e => e.2 - e.1).map V.int)) _ _ hlb
      refine ⟨_, rfl, b, c.L, dl, _, _, rfl, hlb', T.clL, T.lE, lk_1, _, rfl, b, c.L, dl, _, _, rfl, hlb', T.clL, T.lP, lk_0, _, _, rfl, rfl, _, upd_same, ?_, ?_⟩
      · rw [List.length_map, List.length_map, List.length_take]
        exact line_of (by omega)
      · show upd (upd _ D _) D _ = _
        rw [upd_upd, take_more hq, List.map_append, List.map_append]
        rfl
    rintro H4 rfl
    rw [List.length_map, hlo.1, List.take_length]
    refine ⟨D, _, rfl, SqL.of upd_same, _, _, rfl, rfl, ?_⟩
    rw [List.length_map, hpo.1]
    exact k _ (Same.new nD)
/-- the logs' lengths -/
theorem span_sum (ks : List Sw95.Kind) : ∀ cs : List (Nat × Nat), ((cs.map fun y => ((y.1 : Int), (y.1 : Int) + (lenOf ks y.2 : Int))).map fun e => e.2 - e.1).sum = ((cutLen ks cs : Nat) : Int)
  | [] => rfl
  | y :: cs => by
    rw [List.map_cons, List.map_cons, List.sum_cons, span_sum ks cs]
    show ((y.1 : Int) + (lenOf ks y.2 : Int)) - (y.1 : Int) + ((cutLen ks cs : Nat) : Int) = _
    unfold cutLen
    rw [List.map_cons, List.sum_cons]
    omega
theorem CutAt.span {c : Cs} {ks : List Sw95.Kind} {H : Hp} {a : Addr} {y : Nat × Nat} (h : CutAt c ks H a y) : SpanAt c H a ((y.1 : Int), (y.1 : Int) + (lenOf ks y.2 : Int)) := by
  obtain ⟨z, v, hz, h1⟩ := h
  have e : lenOf ks y.2 = z.long := by unfold lenOf; rw [hz]; rfl
  rw [e]
  exact ⟨y.2, v, h1⟩
/-! ### find_best -/
def spBest (c : Cs) : Sp := fun vs H Q _ => ∃ (y pa ka oa : Addr) (w : Sw95.Wood), vs = [.ref y] ∧ YardAt c H y pa ka oa w ∧ WOk w ∧ Ans c H y pa ka oa w (stepOf w .best) Q
theorem scBest : FnScope ["yard", "steps", "table", "whole", "logs", "answer", "log"] ["yard"] (defScope sBest) := ⟨rfl, rfl, rfl, by decide +kernel, rfl, by decide +kernel, by decide +kernel⟩
theorem ok_best {f : Addr} {fd : FuncData} (F : Fun K "find_best" "find_best" sBest f fd) (T : Txt K mg c) (GS : Cal P w K mg base 1 "stock_steps" ["ordered"] spSteps) (GA : Cal P w K mg base 5 "all_outlooks" ["parts", "kinds", "steps"] (spAllOut c)) (GE : Cal P w K mg base 1 "earliest_logs" ["table", "steps"] (spEarly c)) (GW : Cal P w K mg base 1 "count_waste" ["parts", "logs"] (spWaste c)) : FnOk P w K mg base CX0 6 f fd ["yard"] (spBest c) := by
  refine F.ok scBest (fun vs H Q E h => ?_) (fun cdv A outer s H vs Q E hr h => ?_)
  · obtain ⟨y, pa, ka, oa, wd, rfl, _⟩ := h
    rfl
  · obtain ⟨y, pa, ka, oa, wd, rfl, Y, wok, k⟩ := h
    refine ⟨_, pss_cons (ps_set (i := 1) scBest.nd rfl (Or.inl rfl) (pe_cl GS hr (by decide) (by rfl) (pa_cons (pe_fld (pv 0) rfl) pa_nil)))
      (pss_cons (ps_set (i := 2) scBest.nd rfl (Or.inl rfl) (pe_cl GA hr (by decide) (by rfl) (pa_cons (pe_fld (pv 0) rfl) (pa_cons (pe_fld (pv 0) rfl) (pa_cons (pv 1) pa_nil)))))
      (pss_cons (ps_set (i := 3) scBest.nd rfl (Or.inl rfl) (pe_ix ix_list (pe_ix ix_list (pv 2) pe_int (fun _ _ => rfl)) (pe_un un_neg pe_int) (fun _ _ => rfl)))
      (pss_cons (ps_set (i := 4) scBest.nd rfl (Or.inl rfl) (pe_cl GE hr (by decide) (by rfl) (pa_cons (pv 2) (pa_cons (pv 1) pa_nil))))
      (pss_cons (ps_set (i := 5) scBest.nd rfl (Or.inl rfl) (pe_lst (pa_cons (pe_fld (pv 3) rfl) (pa_cons pe_int (pa_cons (pe_fld (pv 3) rfl) (pa_cons (pe_cl GW hr (by decide) (by rfl) (pa_cons (pe_fld (pv 0) rfl) (pa_cons (pv 4) pa_nil))) pa_nil))))))
      (pss_cons (ps_for PassesOwn.never rfl (pi_list (pv 4)) (pg_name (i := 6) scBest.nd rfl (Or.inl rfl))
        (pss_one (ps_expr (pe_bm PySem.F.plainAttrs_list PySem.F.slot_list_extend PySem.F.type_list_extend mt_extend (pv 5) (pa_cons (pe_lst (pa_cons pe_int (pa_cons (pe_fld (pv 6) rfl) (pa_cons (pe_fld (pv 6) rfl) pa_nil)))) pa_nil)))))
      (pss_one (ps_ret (pv 5)))))))), ?_⟩
    obtain ⟨dy, hy⟩ := Y.obj
    have h3 := wok.kinds.1
    have h40 := wok.stem.1
    have hm5 : ∀ m ∈ wd.kinds.map (fun z => z.most), m ≤ 5 := fun m hm => by
      obtain ⟨z, hz, rfl⟩ := List.mem_map.mp hm
      exact Nat.le_succ_of_le (wok.most z hz)
    have hB := best_eq wd
    -- steps = stock_steps(yard.ordered)
    refine ⟨_, rfl, y, c.Y, dy, _, _, rfl, hy, T.clY, T.yO, lk_2, oa, _, rfl, Y.ords, (by rw [List.length_map]; exact h3), hm5, fun H1 st s1 nst hst => ?_⟩
    have Y1 := Y.same s1
    have hy1 := s1 _ _ hy
    -- table = all_outlooks(yard.parts, yard.kinds, steps)
    refine ⟨_, rfl, y, c.Y, dy, _, _, rfl, hy1, T.clY, T.yP, lk_0, _, rfl, y, c.Y, dy, _, _, rfl, hy1, T.clY, T.yK, lk_1, _, rfl, pa, ka, st, wd.stem, wd.kinds, _, rfl, Y1.parts, wok.stem, Y1.kinds, wok.kinds, hst, (by rw [List.length_map]), hm5, fun H2 t s2 nt hT => ?_⟩
    -- whole = table[0][-1]
    obtain ⟨rs, as, ra, a, ht, h0, hra, hb, lga, ⟨da, hda⟩, _⟩ := hT.whole
    refine ⟨_, rfl, t, _, _, _, rfl, rfl, SqL.of ht, h0, _, rfl, ra, _, _, _, rfl, rfl, SqL.of hra, hb, ?_⟩
    rw [← hB] at hda
    -- logs = earliest_logs(table, steps)
    refine ⟨_, rfl, _, rfl, t, st, wd.kinds, wd.stem, _, rfl, hT, h40, s2 _ _ hst, (by rw [List.length_map]), fun H3 ll s3 nll hL => ?_⟩
    rw [← hB] at hL
    generalize hbw : wd.best = bw at hda hL
    have hcl : bw.cutting.length ≤ 40 := by
      have q := bestAt_count wd.kinds wd.stem.length wd.stem 0 (wd.kinds.map fun z => z.most) (Nat.le_refl _)
      rw [← hB, hbw] at q
      omega
    have hcut : cutLen wd.kinds bw.cutting ≤ wd.stem.length := by
      have q := bestAt_len wd.kinds wd.stem.length wd.stem 0 (wd.kinds.map fun z => z.most) (Nat.le_refl _)
      rw [← hB, hbw] at q
      exact q
    have s03 : Same H H3 := (s1.trans s2).trans s3
    have Y3 := Y.same s03
    have hy3 := s03 _ _ hy
    obtain ⟨pas, hpa, hpo⟩ := id Y3.parts
    obtain ⟨las, hll, hlo⟩ := id hL
    -- answer = [whole.worth, 2, whole.ways, count_waste(yard.parts, logs)]
    have ew : (wd.stem.length : Int) - ((cutLen wd.kinds bw.cutting : Nat) : Int) = ((wd.stem.length - cutLen wd.kinds bw.cutting : Nat) : Int) := by omega
    have hda3 := s3 _ _ hda
    refine ⟨_, rfl, a, c.O, da, _, _, rfl, hda3, T.clO, T.oW, lk_0, _, rfl, a, c.O, da, _, _, rfl, hda3, T.clO, T.oM, lk_1, _, rfl, y, c.Y, dy, _, _, rfl, hy3, T.clY, T.yP, lk_0, _, rfl, pa, ll, wd.stem, _, rfl, Y3.parts, ⟨las, hll, hlo.as _ fun _ _ q => q.span⟩, (by rw [List.length_map]; omega), fun H4 s4 => ?_⟩
    rw [span_sum]
    refine ⟨(by show 4 ≤ sizeLine; decide), fun r nr => ?_⟩
    have s04 : Same H H4 := s03.trans s4
    have hll4 := s4 _ _ hll
    -- for log in logs: answer.extend([2, log.place, log.number])
    refine ⟨_, rfl, ll, rfl, ⟨_, SqL.of (Same.new nr _ _ hll4)⟩, for_list (K := K) (a := ll) (xs := las.map V.ref) (fun i σ H' => ∃ v5 : Option V, σ = [some (.ref y), some (.ref st), some (.ref t), some (.ref a), some (.ref ll), some (.ref r), v5] ∧ Same H4 H' ∧
        H' r = some (.lst (((bw.value : Int) :: 2 :: (bw.many : Int) :: ((wd.stem.length : Int) - ((cutLen wd.kinds bw.cutting : Nat) : Int)) :: logsOut (bw.cutting.take i)).map V.int)))
      ⟨none, rfl, Same.new nr, upd_same⟩ (fun i σ H' _ ⟨_, _, s5, _⟩ => SqL.of (s5 _ _ hll4)) ?_ ?_⟩
    · rintro i x σ H' hi ⟨v5, rfl, s5, hr5⟩
      obtain ⟨b, hb', rfl⟩ := map_at hi
      obtain ⟨⟨q1, q2⟩, hq, z, v, hz, dl, hlb⟩ := hlo.at hb'
      dsimp only at hz hlb
      have hlb' := s5 _ _ (s4 _ _ hlb)
      refine ⟨_, rfl, .inl ⟨rfl, _, SqL.of hr5⟩, _, rfl, b, c.L, dl, _, _, rfl, hlb', T.clL, T.lP, lk_0, _, rfl, b, c.L, dl, _, _, rfl, hlb', T.clL, T.lN, lk_2, (by show 3 ≤ sizeLine; decide), fun e ne => ?_⟩
      have nre : r ≠ e := ne_of_none hr5 ne
      refine ⟨r, e, _, _, rfl, rfl, (by rw [upd_ne nre]; exact hr5), upd_same, ?_, _, rfl, ?_, ?_⟩
      · have q := logsOut_len (bw.cutting.take i)
        rw [List.length_take] at q
        rw [List.length_map, List.length_cons, List.length_cons, List.length_cons, List.length_cons, q]
        have e3 : [V.int 2, V.int (q1 : Int), V.int (q2 : Int)].length = 3 := rfl
        rw [e3]
        exact Nat.le_of_lt (line_of (by omega))
      · exact Same.grow (Same.grow s5 (s5.free ne)) nr
      · rw [upd_same, take_more hq]
        unfold logsOut
        rw [List.flatMap_append]
        simp only [List.map_cons, List.map_append, List.cons_append]
        rfl
    · rintro σ H' ⟨v5, rfl, s5, hr5⟩
      rw [List.length_map, hlo.1, List.take_length] at hr5
      have s05 : Same H H' := s04.trans s5
      refine ⟨_, rfl, k H' pa r (Y.same s05) (.inl rfl) (fun b o e _ _ _ => s05 _ _ e) (s04.free nr) ?_⟩
      rw [best_out, hbw, ← ew]
      exact hr5
end
end LC
namespace LC
open PySem PySem.Spec PyProof.Rows L2
/-- an item of a list, at a place from the front -/
def gIx (K : PySem.W.Frag) : V → V → Hp → VK → Prop := fun o i H Q => ∃ (p : Addr) (xs : List V) (j : Nat) (v : V), o = .ref p ∧ i = .int (j : Int) ∧ SqL K H p xs ∧ xs[j]? = some v ∧ Q v H
theorem get_list {X : Cx} : PGet X (gIx X.K) := by
  intro pins s σ H o i ov iv Q I ro ri h
  obtain ⟨p, xs, j, z, rfl, rfl, hq, he, q⟩ := h
  cases ro
  obtain ⟨t, rfl⟩ := ri
  obtain ⟨its, rs, pl, _⟩ := I.list hq
  obtain ⟨u, eu, ru⟩ := rs.get he
  have hlt : j < xs.length := (List.getElem?_eq_some_iff.mp he).1
  have hn := line63
  exact wpAny_getItem_list pl.isList (by omega) (by omega) (by rw [Int.toNat_natCast]; simpa using eu) ⟨z, H, I, ru, q⟩
theorem flatC_at : ∀ {cs : List (Nat × Nat)} {i : Nat} {y : Nat × Nat}, cs[i]? = some y → (flatC cs)[2 * i]? = some y.1 ∧ (flatC cs)[2 * i + 1]? = some y.2
  | [], i, y, h => by simp at h
  | q :: l, 0, y, h => by
    have e : q = y := Option.some.inj h
    subst e
    exact ⟨rfl, rfl⟩
  | q :: l, i + 1, y, h => by
    have ih := flatC_at (cs := l) (i := i) (y := y) h
    rw [show 2 * (i + 1) = 2 * i + 1 + 1 by omega]
    exact ih
/-- a log with its worth: place, kind, worth -/
def LogW (c : Cs) (ks : List Sw95.Kind) (H : Hp) (a : Addr) (t : Nat × Nat × Nat) : Prop := ∃ z : Sw95.Kind, ks[t.2.1]? = some z ∧ At c.L H a (logF t.1 ((t.1 : Int) + (z.long : Int)) t.2.1 t.2.2)
theorem LogW.same {c : Cs} {ks : List Sw95.Kind} {H H' : Hp} {a : Addr} {t : Nat × Nat × Nat} (h : LogW c ks H a t) (s : Same H H') : LogW c ks H' a t := by
  obtain ⟨z, h1, h2⟩ := h
  exact ⟨z, h1, h2.same s⟩
theorem LogW.upd {c : Cs} {ks : List Sw95.Kind} {H : Hp} {a : Addr} {t : Nat × Nat × Nat} {l : Addr} {u : HO} {xs : List V} (h : LogW c ks H a t) (hl : H l = some (.lst xs)) : LogW c ks (L2.upd H l u) a t := by
  obtain ⟨z, h1, h2⟩ := h
  exact ⟨z, h1, At.upd h2 hl⟩
theorem LogW.span {c : Cs} {ks : List Sw95.Kind} {H : Hp} {a : Addr} {t : Nat × Nat × Nat} (h : LogW c ks H a t) : SpanAt c H a ((t.1 : Int), (t.1 : Int) + (lenOf ks t.2.1 : Int)) := by
  obtain ⟨z, hz, h1⟩ := h
  have e : lenOf ks t.2.1 = z.long := by unfold lenOf; rw [hz]; rfl
  rw [e]
  exact ⟨t.2.1, t.2.2, h1⟩
theorem ix_nat {n : Nat} {j : Nat} (h : j < n) : ixN n (j : Int) = some j := by
  unfold ixN
  rw [if_pos (by omega), if_pos (by omega), Int.toNat_natCast]
section
variable {P : Program} {w : World} {K : PySem.W.Frag} {mg : Str → Option Value} {base : Heap} {c : Cs}
/-! ### cutting_of -/
def spCutting (c : Cs) : Sp := fun vs H Q _ => ∃ (y nl pa ka oa : Addr) (w : Sw95.Wood) (cs : List (Nat × Nat)), vs = [.ref y, .ref nl] ∧ YardAt c H y pa ka oa w ∧ WOk w ∧ IntsAt H nl (flatC cs) ∧ cs.length ≤ 60 ∧
  (∀ H', Same H H' → w.value cs = none → Q .non H') ∧
  ∀ (H' : Hp) (r : Addr) (ts : List (Nat × Nat × Nat)), Same H H' → H r = none → ts.map (fun t => (t.1, t.2.1)) = cs → w.value cs = some (ts.map fun t => t.2.2).sum → LstAt (LogW c w.kinds) H' r ts → Q (.ref r) H'
theorem scCutting : FnScope ["yard", "numbers", "logs", "left", "free", "at", "place", "number", "log"] ["yard", "numbers"] (defScope sCutting) := ⟨rfl, rfl, rfl, by decide +kernel, rfl, by decide +kernel, by decide +kernel⟩
theorem ok_cutting {f : Addr} {fd : FuncData} (F : Fun K "cutting_of" "cutting_of" sCutting f fd) (T : Txt K mg c) (GM : Cal P w K mg base 1 "may_be_cut" ["parts", "kind", "place"] (spMayCut c)) (GL : Cal P w K mg base 3 "cut_log" ["parts", "kinds", "number", "place"] (spCutLog c)) :
    FnOk P w K mg base CX0 4 f fd ["yard", "numbers"] (spCutting c) := by
  refine F.ok scCutting (fun vs H Q E h => ?_) (fun cdv A outer s H vs Q E hr h => ?_)
  · obtain ⟨y, nl, pa, ka, oa, wd, cs, rfl, _⟩ := h
    rfl
  · obtain ⟨y, nl, pa, ka, oa, wd, cs, rfl, Y, wok, hn, h60, kN, k⟩ := h
    refine ⟨_, pss_cons (ps_set (i := 2) scCutting.nd rfl (Or.inl rfl) (pe_lst pa_nil))
      (pss_cons (ps_set (i := 3) scCutting.nd rfl (Or.inl rfl) (pe_callTy call_list_of (by rfl) T.list (by decide +kernel) (pa_cons (pe_fld (pv 0) rfl) pa_nil)))
      (pss_cons (ps_set (i := 4) scCutting.nd rfl (Or.inl rfl) pe_int)
      (pss_cons (ps_for PassesOwn.never rfl (pi_range3 rfl T.range (pa_cons pe_int (pa_cons (pe_callB call_len_seq (by rfl) T.len PySem.boot_len (pa_cons (pv 1) pa_nil)) (pa_cons pe_int pa_nil)))) (pg_name (i := 5) scCutting.nd rfl (Or.inl rfl))
        (pss_cons (ps_set (i := 6) scCutting.nd rfl (Or.inl rfl) (pe_ix ix_list (pv 1) (pv 5) (fun _ _ => rfl)))
        (pss_cons (ps_set (i := 7) scCutting.nd rfl (Or.inl rfl) (pe_ix ix_list (pv 1) (pe_op op_add (pv 5) pe_int) (fun _ _ => rfl)))
        (pss_cons (ps_if (PW.pt (pw_or (pt_cmpR op_ge (pv 7) (pe_callB call_len_seq (by rfl) T.len PySem.boot_len (pa_cons (pe_fld (pv 0) rfl) pa_nil)) (nomark _)) (pw_or (pt_cmpR op_eq (pe_ix ix_list (pv 3) (pv 7) (fun _ _ => rfl)) pe_int (nomark _)) (pw_or1 (pt_cmpR op_lt (pv 6) (pv 4) (nomark _)))))) (pss_one (ps_ret pe_non)) pss_nil)
        (pss_cons (ps_if (pt_not (pt_val (pe_cl GM hr (by decide) (by rfl) (pa_cons (pe_fld (pv 0) rfl) (pa_cons (pe_ix ix_list (pe_fld (pv 0) rfl) (pv 7) (fun _ _ => rfl)) (pa_cons (pv 6) pa_nil)))))) (pss_one (ps_ret pe_non)) pss_nil)
        (pss_cons (ps_set (i := 8) scCutting.nd rfl (Or.inl rfl) (pe_cl GL hr (by decide) (by rfl) (pa_cons (pe_fld (pv 0) rfl) (pa_cons (pe_fld (pv 0) rfl) (pa_cons (pv 7) (pa_cons (pv 6) pa_nil))))))
        (pss_cons (ps_expr (pe_bm PySem.F.plainAttrs_list PySem.F.slot_list_append PySem.F.type_list_append mt_append (pv 2) (pa_cons (pv 8) pa_nil)))
        (pss_cons (ps_augS (pv 3) (pv 7) get_list pe_int ip_sub set_list)
        (pss_one (ps_set (i := 4) scCutting.nd rfl (Or.inl rfl) (pe_fld (pv 8) rfl)))))))))))
      (pss_one (ps_ret (pv 2)))))), ?_⟩
    obtain ⟨dy, hy⟩ := Y.obj
    have h40 := wok.stem.1
    have h3 := wok.kinds.1
    -- logs = []; left = list(yard.ordered); free = 0
    refine ⟨Nat.zero_le _, fun r nr => ?_⟩
    have s1 : Same H (upd H r (.lst [])) := Same.new nr
    refine ⟨_, rfl, y, c.Y, dy, _, _, rfl, s1 _ _ hy, T.clY, T.yO, lk_2, oa, _, rfl, .inl (SqL.of (s1 _ _ Y.ords)), fun lf nlf => ?_⟩
    have nlf0 : H lf = none := s1.free nlf
    have nrl : r ≠ lf := fun q => by
      rw [← q, upd_same] at nlf
      cases nlf
    have s2 : Same H (upd (upd H r (.lst [])) lf (.lst ((wd.kinds.map fun z => z.most).map fun (n : Nat) => V.int (n : Int)))) := Same.grow s1 nlf0
    have hlen : (((flatC cs).map fun (n : Nat) => V.int (n : Int)).length : Int) = ((2 * cs.length : Nat) : Int) := by rw [List.length_map, flatC_len]
    refine ⟨_, rfl, nl, _, rfl, .inl (SqL.of (s2 _ _ hn)), 0, _, 2, cs.length, rfl, (by rw [hlen]; exact rg_two _ h60), ?_⟩
    refine for_rangeC (lo := 0) (c := 2) (n := cs.length) (fun i σ H' => ∃ (x : Nat) (left : List Nat) (ts : List (Nat × Nat × Nat)) (v5 v6 v7 v8 : Option V), σ = [some (.ref y), some (.ref nl), some (.ref r), some (.ref lf), some (.int x), v5, v6, v7, v8] ∧ Same H H' ∧ left.length = wd.kinds.length ∧ IntsAt H' lf left ∧ LstAt (LogW c wd.kinds) H' r ts ∧
        ts.map (fun t => (t.1, t.2.1)) = cs.take i ∧ wd.value cs = (chk wd x left (cs.drop i)).map fun n => (ts.map fun t => t.2.2).sum + n)
      ⟨0, wd.kinds.map fun z => z.most, [], none, none, none, none, rfl, s2, List.length_map _, upd_same, ⟨[], (by rw [upd_ne nrl]; exact upd_same), Objs.nil⟩, rfl, ?_⟩ ?_ ?_
    · rw [value_chk, List.drop_zero]
      cases chk wd 0 (wd.kinds.map fun z => z.most) cs with
      | none => rfl
      | some n => exact congrArg some (Nat.zero_add n).symm
    · rintro i σ H' hi ⟨x, left, ts, v5, v6, v7, v8, rfl, s5, hll, hlf, ⟨as, hR, hO⟩, eT, eV⟩
      have hq : cs[i]? = some cs[i] := List.getElem?_eq_getElem hi
      generalize cs[i] = q at hq
      obtain ⟨a, j⟩ := q
      obtain ⟨f1, f2⟩ := flatC_at hq
      dsimp only at f1 f2
      rw [drop_at hq] at eV
      have e1 : (0 : Int) + (i : Nat) * 2 = ((2 * i : Nat) : Int) := by omega
      have hn1 := s5 _ _ hn
      have Y5 := Y.same s5
      have hy5 := s5 _ _ hy
      obtain ⟨kas, hka, hko⟩ := id Y5.kinds
      have hkl : ((kas.map V.ref).length : Int) = (wd.kinds.length : Int) := by rw [List.length_map, hko.1]
      have kf : ∀ {H6 : Hp}, Same H H6 → chk wd x left ((a, j) :: cs.drop (i + 1)) = none → Q .non H6 := fun {H6} s6 e => kN H6 s6 (by rw [eV, e]; rfl)
      refine ⟨_, rfl, _, rfl, nl, _, _, _, rfl, rfl, SqL.of hn1, (by rw [e1]; exact nat_at f1), ?_⟩
      refine ⟨_, rfl, _, rfl, _, _, rfl, rfl, nl, _, _, _, rfl, rfl, SqL.of hn1, (by rw [e1]; exact nat_at f2), ?_⟩
      -- number >= len(yard.kinds)
      refine ⟨_, rfl, _, rfl, y, c.Y, dy, _, _, rfl, hy5, T.clY, T.yK, lk_1, ka, _, rfl, .inl (SqL.of hka), _, _, rfl, rfl, _, rfl, ?_⟩
      by_cases hj : j < wd.kinds.length
      · refine ifF (decide_eq_false (by rw [hkl]; omega)) ?_
        have hz : wd.kinds[j]? = some wd.kinds[j] := List.getElem?_eq_getElem hj
        generalize wd.kinds[j] = z at hz
        have hjl : j < left.length := by rw [hll]; exact hj
        have hm : left[j]? = some left[j] := List.getElem?_eq_getElem hjl
        generalize left[j] = m at hm
        have hgd : left.getD j 0 = m := by rw [List.getD_eq_getElem?_getD, hm]; rfl
        -- left[number] == 0
        refine ⟨_, rfl, _, rfl, lf, _, _, _, rfl, rfl, SqL.of hlf, nat_at hm, rfl, _, rfl, ?_⟩
        by_cases h0 : m = 0
        · refine ifT (decide_eq_true (by rw [h0]; rfl)) ?_
          exact iteT (kf s5 (chk_stop (.inr (.inl (hgd.trans h0)))))
        · refine ifF (decide_eq_false (fun e => h0 (by have := V.int.inj e; omega))) ?_
          -- place < free
          refine ⟨_, rfl, _, rfl, _, _, rfl, rfl, _, rfl, ?_⟩
          by_cases hax : (a : Int) < (x : Int)
          · refine ifT (decide_eq_true hax) ?_
            exact kf s5 (chk_stop (.inr (.inr (.inl (by omega)))))
          · refine ifF (decide_eq_false hax) ?_
            obtain ⟨kz, hkz, dk, hk⟩ := hko.get hz
            -- not may_be_cut(yard.parts, yard.kinds[number], place)
            refine ⟨_, rfl, y, c.Y, dy, _, _, rfl, hy5, T.clY, T.yP, lk_0, _, rfl, y, c.Y, dy, _, _, rfl, hy5, T.clY, T.yK, lk_1, _, rfl, ka, _, _, _, rfl, rfl, SqL.of hka, ref_at hkz, _, rfl, pa, kz, wd.stem, z, a, rfl, Y5.parts, h40, ⟨dk, hk⟩, (wok.kinds.at hz).1, fun H6 s6 => ⟨_, rfl, ?_⟩⟩
            have s06 : Same H H6 := s5.trans s6
            cases hw : Sw95.worth z (wd.stem.drop a) with
            | none =>
              refine ifT rfl ?_
              exact kf s06 (chk_stop (.inr (.inr (.inr ⟨z, hz, hw⟩))))
            | some v =>
              refine ifF rfl ?_
              have Y6 := Y.same s06
              have hy6 := s06 _ _ hy
              -- log = cut_log(yard.parts, yard.kinds, number, place)
              refine ⟨_, rfl, y, c.Y, dy, _, _, rfl, hy6, T.clY, T.yP, lk_0, _, rfl, y, c.Y, dy, _, _, rfl, hy6, T.clY, T.yK, lk_1, _, rfl, _, rfl, pa, ka, wd.stem, wd.kinds, z, j, a, v, rfl, Y6.parts, wok.stem, Y6.kinds, wok.kinds, hz, hw, fun H7 la s7 nla hla => ?_⟩
              have s67 : Same H' H7 := s6.trans s7
              have hR7 := s67 _ _ hR
              have hlf7 := s67 _ _ hlf
              have hO7 : Objs (LogW c wd.kinds) H7 as ts := hO.mono fun b t q => q.same s67
              have hal : as.length ≤ 60 := by
                have q := congrArg List.length eT
                rw [List.length_map, List.length_take] at q
                rw [hO.1, q]
                omega
              -- logs.append(log)
              refine ⟨_, rfl, .inl ⟨rfl, _, SqL.of hR7⟩, _, rfl, r, _, _, rfl, rfl, hR7, ?_, ?_⟩
              · rw [List.length_map]
                exact line_of (by omega)
              have hlf8 : (upd H7 r (.lst (as.map V.ref ++ [V.ref la]))) lf = some (.lst (left.map fun (n : Nat) => V.int (n : Int))) := by
                rw [upd_ne nrl.symm]
                exact hlf7
              have hm' : (left.map fun (n : Nat) => V.int (n : Int))[j]? = some (V.int (m : Int)) := by rw [List.getElem?_map, hm]; rfl
              -- left[number] -= 1
              refine ⟨_, rfl, _, rfl, lf, _, j, _, rfl, rfl, SqL.of hlf8, hm', _, _, rfl, rfl, lf, _, _, j, rfl, rfl, hlf8, ix_nat (by rw [List.length_map]; exact hjl), ?_⟩
              have hla8 : At c.L (upd (upd H7 r (.lst (as.map V.ref ++ [V.ref la]))) lf (.lst ((left.map fun (n : Nat) => V.int (n : Int)).set j (V.int ((m : Int) - 1))))) la (logF a ((a : Int) + (z.long : Int)) j v) := At.upd (At.upd hla hR7) hlf8
              obtain ⟨dl, hdl⟩ := id hla8
              -- free = log.end
              refine ⟨_, rfl, la, c.L, dl, _, _, rfl, hdl, T.clL, T.lE, lk_1, ?_⟩
              refine ⟨a + z.long, left.set j (left.getD j 0 - 1), ts ++ [(a, j, v)], some (.int ((0 : Int) + (i : Nat) * 2)), some (.int (a : Int)), some (.int (j : Int)), some (.ref la), rfl, Same.grow (Same.grow (s5.trans s67) nr) nlf0, ?_, ?_, ?_, ?_, ?_⟩
              · rw [List.length_set]
                exact hll
              · show (upd _ lf _) lf = _
                rw [upd_same, List.map_set, hgd, show ((m - 1 : Nat) : Int) = (m : Int) - 1 by omega]
              · refine ⟨as ++ [la], by rw [upd_ne nrl, upd_same, List.map_append]; rfl, ?_⟩
                exact Objs.snoc (hO7.mono fun b t q => (q.upd hR7).upd hlf8) ⟨z, hz, hla8⟩
              · rw [List.map_append, eT, take_more hq]
                rfl
              · rw [eV, chk_turn hz (by rw [hgd]; exact h0) (by omega) hw, Option.map_map]
                congr 1
                funext n
                show (ts.map fun t => t.2.2).sum + (v + n) = _
                rw [List.map_append, List.sum_append]
                show _ = (ts.map fun t => t.2.2).sum + (v + 0) + n
                omega
      · refine ifT (decide_eq_true (by rw [hkl]; omega)) ?_
        exact iteT (kf s5 (chk_stop (.inl (List.getElem?_eq_none (Nat.le_of_not_lt hj)))))
    · rintro σ H' ⟨x, left, ts, v5, v6, v7, v8, rfl, s5, hll, hlf, hL, eT, eV⟩
      rw [List.take_length] at eT
      rw [List.drop_length] at eV
      exact ⟨_, rfl, k H' r ts s5 nr eT (by rw [eV]; rfl) hL⟩
/-! ### check_logs -/
def spCheck (c : Cs) : Sp := fun vs H Q _ => ∃ (y nl pa ka oa : Addr) (w : Sw95.Wood) (cs : List (Nat × Nat)), vs = [.ref y, .ref nl] ∧ YardAt c H y pa ka oa w ∧ WOk w ∧ IntsAt H nl (flatC cs) ∧ cs.length ≤ 60 ∧ Ans c H y pa ka oa w (stepOf w (.check cs)) Q
theorem scCheck : FnScope ["yard", "numbers", "logs", "log"] ["yard", "numbers"] (defScope sCheck) := ⟨rfl, rfl, rfl, by decide +kernel, rfl, by decide +kernel, by decide +kernel⟩
theorem sum_cast : ∀ ts : List (Nat × Nat × Nat), (ts.map fun t => (t.2.2 : Int)).sum = (((ts.map fun t => t.2.2).sum : Nat) : Int)
  | [] => rfl
  | t :: ts => by
    rw [List.map_cons, List.sum_cons, sum_cast ts, List.map_cons, List.sum_cons]
    omega
theorem ok_check {f : Addr} {fd : FuncData} (F : Fun K "check_logs" "check_logs" sCheck f fd) (T : Txt K mg c) (GC : Cal P w K mg base 4 "cutting_of" ["yard", "numbers"] (spCutting c)) (GW : Cal P w K mg base 1 "count_waste" ["parts", "logs"] (spWaste c)) :
    FnOk P w K mg base CX0 5 f fd ["yard", "numbers"] (spCheck c) := by
  refine F.ok scCheck (fun vs H Q E h => ?_) (fun cdv A outer s H vs Q E hr h => ?_)
  · obtain ⟨y, nl, pa, ka, oa, wd, cs, rfl, _⟩ := h
    rfl
  · obtain ⟨y, nl, pa, ka, oa, wd, cs, rfl, Y, wok, hn, h60, k⟩ := h
    refine ⟨_, pss_cons (ps_set (i := 2) scCheck.nd rfl (Or.inl rfl) (pe_cl GC hr (by decide) (by rfl) (pa_cons (pv 0) (pa_cons (pv 1) pa_nil))))
      (pss_cons (ps_if (pt_cmpR op_isN (pv 2) pe_non (nomark _)) (pss_one (ps_ret (pe_lst (pa_cons (pe_k (by rfl) T.cNoCut) pa_nil)))) pss_nil)
      (pss_one (ps_ret (pe_lst (pa_cons (pe_callB (cr_sum rfl) (by rfl) T.sum (by decide +kernel) (pa_cons
        (pe_lc (own := [("log", 3)]) (g := gName 3) (tt := tYes) (te := tFld K (tVar 3) "worth") rfl scCheck.nd (pi_list (pv 2))
          (blkOk_by (N := ["yard", "numbers", "logs", "log"]) (sc := defScope sCheck) (by decide +kernel)) (fun _ _ _ _ _ => pg_name (i := 3) scCheck.nd rfl (Or.inl rfl)) (fun _ _ _ _ _ => pts_nil)
          (fun _ _ _ _ _ => by exact pe_fld (pv 3) rfl)) pa_nil)) (pa_cons pe_int (pa_cons (pe_cl GW hr (by decide) (by rfl) (pa_cons (pe_fld (pv 0) rfl) (pa_cons (pv 2) pa_nil))) pa_nil))))))), ?_⟩
    obtain ⟨dy, hy⟩ := Y.obj
    refine ⟨_, rfl, _, rfl, y, nl, pa, ka, oa, wd, cs, rfl, Y, wok, hn, h60, fun H1 s1 hv => ?_, fun H1 ll ts s1 nll eT hv hL => ?_⟩
    · refine ⟨_, rfl, rfl, _, rfl, ifT rfl ?_⟩
      have eS := step_check_none hv
      unfold stepOf at k
      rw [eS] at k
      exact ⟨(by show 1 ≤ sizeLine; decide), fun r nr => Ans.same k Y s1 nr⟩
    · refine ⟨_, rfl, rfl, _, rfl, ifF (decide_eq_false (by intro q; cases q)) ?_⟩
      have eS := step_check hv
      unfold stepOf at k
      rw [eS, cut_eq] at k
      obtain ⟨las, hll, hlo⟩ := id hL
      have htl : ts.length ≤ 60 := by
        have q := congrArg List.length eT
        rw [List.length_map] at q
        omega
      -- sum([log.worth for log in logs])
      refine ⟨_, rfl, ll, rfl, ⟨_, SqL.of hll⟩, fun D nD => ?_⟩
      refine lc_list (K := K) (a := ll) (xs := las.map V.ref) (fun i H' => H' = upd H1 D (.lst (((ts.take i).map fun t => (t.2.2 : Int)).map V.int))) rfl (fun i H' _ e => by rw [e]; exact SqL.of (by rw [upd_ne (ne_of_none hll nD)]; exact hll)) ?_ ?_
      · rintro i x H' hi rfl
        obtain ⟨b, hb', rfl⟩ := map_at hi
        obtain ⟨⟨q1, q2, q3⟩, hq, z, hz, dl, hlb⟩ := hlo.at hb'
        dsimp only at hz hlb
        refine ⟨rfl, yesT (ifT rfl ?_)⟩
        have hlb' := Same.new nD (o := .lst (((ts.take i).map fun t => (t.2.2 : Int)).map V.int)) _ _ hlb
        refine ⟨_, rfl, b, c.L, dl, _, _, rfl, hlb', T.clL, T.lW, lk_3, _, upd_same, ?_, ?_⟩
        · rw [List.length_map, List.length_map, List.length_take]
          exact line_of (by omega)
        · show upd (upd _ D _) D _ = _
          rw [upd_upd, take_more hq, List.map_append, List.map_append]
          rfl
      rintro H4 rfl
      rw [List.length_map, hlo.1, List.take_length]
      refine ⟨D, _, rfl, SqL.of upd_same, ?_⟩
      have s4 : Same H1 (upd H1 D (.lst ((ts.map fun t => (t.2.2 : Int)).map V.int))) := Same.new nD
      rw [sum_cast]
      generalize upd H1 D (.lst ((ts.map fun t => (t.2.2 : Int)).map V.int)) = H4 at s4
      have s04 : Same H H4 := s1.trans s4
      have Y4 := Y.same s04
      have hy4 := s04 _ _ hy
      refine ⟨_, rfl, y, c.Y, dy, _, _, rfl, hy4, T.clY, T.yP, lk_0, _, rfl, pa, ll, wd.stem, _, rfl, Y4.parts, ⟨las, s4 _ _ hll, (hlo.mono fun a t q => q.same s4).as _ fun _ _ q => q.span⟩, (by rw [List.length_map]; omega), fun H5 s5 => ?_⟩
      have eM : (ts.map fun t => ((t.1 : Int), (t.1 : Int) + (lenOf wd.kinds t.2.1 : Int))) = cs.map fun y => ((y.1 : Int), (y.1 : Int) + (lenOf wd.kinds y.2 : Int)) := by
        rw [← eT, List.map_map]
        rfl
      rw [eM, span_sum]
      have hc := chk_len wd cs 0 _ _ ((value_chk wd cs).symm.trans hv) (Nat.zero_le _)
      rw [show (wd.stem.length : Int) - ((cutLen wd.kinds cs : Nat) : Int) = ((wd.stem.length - cutLen wd.kinds cs : Nat) : Int) by omega]
      exact ⟨(by show 3 ≤ sizeLine; decide), fun r nr => Ans.same k Y (s04.trans s5) nr⟩
end
end LC
namespace LC
open PySem PySem.Spec PyProof.Rows L2
section
variable {P : Program} {w : World} {K : PySem.W.Frag} {mg : Str → Option Value} {base : Heap} {c : Cs}
/-! ### find_more -/
def spMore (c : Cs) : Sp := fun vs H Q _ => ∃ (y pa ka oa : Addr) (w : Sw95.Wood) (j : Nat), vs = [.ref y, .int j] ∧ YardAt c H y pa ka oa w ∧ WOk w ∧ Ans c H y pa ka oa w (stepOf w (.more j)) Q
theorem scMore : FnScope ["yard", "number", "ordered", "steps", "table", "fullest"] ["yard", "number"] (defScope sMore) := ⟨rfl, rfl, rfl, by decide +kernel, rfl, by decide +kernel, by decide +kernel⟩
theorem set_back {l : List Nat} {j m n : Nat} (h : l[j]? = some m) : (l.set j n).set j m = l := by
  refine List.ext_getElem? fun i => ?_
  have hj : j < l.length := (List.getElem?_eq_some_iff.mp h).1
  by_cases e : j = i
  · subst e
    rw [List.getElem?_set_self (by rw [List.length_set]; exact hj), h]
  · rw [List.getElem?_set_ne e, List.getElem?_set_ne e]
theorem ok_more {f : Addr} {fd : FuncData} (F : Fun K "find_more" "find_more" sMore f fd) (T : Txt K mg c) (GS : Cal P w K mg base 1 "stock_steps" ["ordered"] spSteps) (GA : Cal P w K mg base 5 "all_outlooks" ["parts", "kinds", "steps"] (spAllOut c)) : FnOk P w K mg base CX0 6 f fd ["yard", "number"] (spMore c) := by
  refine F.ok scMore (fun vs H Q E h => ?_) (fun cdv A outer s H vs Q E hr h => ?_)
  · obtain ⟨y, pa, ka, oa, wd, j, rfl, _⟩ := h
    rfl
  · obtain ⟨y, pa, ka, oa, wd, j, rfl, Y, wok, k⟩ := h
    refine ⟨_, pss_cons (ps_if (pt_cmpR op_ge (pv 1) (pe_callB call_len_seq (by rfl) T.len PySem.boot_len (pa_cons (pe_fld (pv 0) rfl) pa_nil)) (nomark _)) (pss_one (ps_ret (pe_lst (pa_cons (pe_k (by rfl) T.cNoKind) pa_nil)))) pss_nil)
      (pss_cons (ps_set (i := 2) scMore.nd rfl (Or.inl rfl) (pe_callTy call_list_of (by rfl) T.list (by decide +kernel) (pa_cons (pe_fld (pv 0) rfl) pa_nil)))
      (pss_cons (ps_augS (pv 2) (pv 1) get_list pe_int ip_add set_list)
      (pss_cons (ps_set (i := 3) scMore.nd rfl (Or.inl rfl) (pe_cl GS hr (by decide) (by rfl) (pa_cons (pv 2) pa_nil)))
      (pss_cons (ps_set (i := 4) scMore.nd rfl (Or.inl rfl) (pe_cl GA hr (by decide) (by rfl) (pa_cons (pe_fld (pv 0) rfl) (pa_cons (pe_fld (pv 0) rfl) (pa_cons (pv 3) pa_nil)))))
      (pss_cons (ps_set (i := 5) scMore.nd rfl (Or.inl rfl) (pe_op op_sub (pe_ix ix_list (pv 3) (pe_un un_neg pe_int) (fun _ _ => rfl)) pe_int))
      (pss_one (ps_ret (pe_lst (pa_cons (pe_op op_sub (pe_fld (pe_ix ix_list (pe_ix ix_list (pv 4) pe_int (fun _ _ => rfl)) (pv 5) (fun _ _ => rfl)) rfl)
        (pe_fld (pe_ix ix_list (pe_ix ix_list (pv 4) pe_int (fun _ _ => rfl)) (pe_op op_sub (pv 5) (pe_ix ix_list (pv 3) (pv 1) (fun _ _ => rfl))) (fun _ _ => rfl)) rfl)) pa_nil))))))))), ?_⟩
    obtain ⟨dy, hy⟩ := Y.obj
    obtain ⟨kas, hka, hko⟩ := id Y.kinds
    have hlen : ((kas.map V.ref).length : Int) = (wd.kinds.length : Int) := by rw [List.length_map, hko.1]
    refine ⟨_, rfl, _, rfl, y, c.Y, dy, _, _, rfl, hy, T.clY, T.yK, lk_1, ka, _, rfl, .inl (SqL.of hka), _, _, rfl, rfl, _, rfl, ?_⟩
    by_cases hj : j < wd.kinds.length
    · refine ifF (decide_eq_false (by rw [hlen]; omega)) ?_
      have hz : wd.kinds[j]? = some wd.kinds[j] := List.getElem?_eq_getElem hj
      generalize wd.kinds[j] = z at hz
      have eS := step_more hz
      unfold stepOf at k
      rw [eS] at k
      have h3 := wok.kinds.1
      have hz4 := wok.most z (List.mem_of_getElem? hz)
      generalize ho : (wd.kinds.map fun z => z.most) = os at k
      have hol : os.length = wd.kinds.length := by rw [← ho, List.length_map]
      have hom : os[j]? = some z.most := by rw [← ho, List.getElem?_map, hz]; rfl
      have hos : IntsAt H oa os := by rw [← ho]; exact Y.ords
      have ho4 : ∀ m ∈ os, m ≤ 4 := fun m hm => by
        rw [← ho] at hm
        obtain ⟨z, hz, rfl⟩ := List.mem_map.mp hm
        exact wok.most z hz
      -- ordered = list(yard.ordered)
      refine ⟨_, rfl, y, c.Y, dy, _, _, rfl, hy, T.clY, T.yO, lk_2, oa, _, rfl, .inl (SqL.of hos), fun ol nol => ?_⟩
      -- ordered[number] += 1
      have hm' : (os.map fun (n : Nat) => V.int (n : Int))[j]? = some (V.int (z.most : Nat)) := by rw [List.getElem?_map, hom]; rfl
      refine ⟨_, rfl, _, rfl, ol, _, j, _, rfl, rfl, SqL.of upd_same, hm', _, _, rfl, rfl, ol, _, _, j, rfl, rfl, upd_same, ix_nat (by rw [List.length_map, hol]; exact hj), ?_⟩
      rw [upd_upd]
      have eL : (os.map fun (n : Nat) => V.int (n : Int)).set j (V.int ((z.most : Nat) + 1 : Int)) = (os.set j (z.most + 1)).map fun (n : Nat) => V.int (n : Int) := by
        rw [List.map_set]
        rfl
      rw [eL]
      have s1 : Same H (upd H ol (.lst ((os.set j (z.most + 1)).map fun (n : Nat) => V.int (n : Int)))) := Same.new nol
      have h1 : IntsAt (upd H ol (.lst ((os.set j (z.most + 1)).map fun (n : Nat) => V.int (n : Int)))) ol (os.set j (z.most + 1)) := upd_same
      generalize upd H ol (.lst ((os.set j (z.most + 1)).map fun (n : Nat) => V.int (n : Int))) = H1 at s1 h1
      have hb := set_back (n := z.most + 1) hom
      have hgd : (os.set j (z.most + 1)).getD j 0 = z.most + 1 := by
        rw [List.getD_eq_getElem?_getD, List.getElem?_set_self (by rw [hol]; exact hj)]
        rfl
      have ho5 : ∀ m ∈ os.set j (z.most + 1), m ≤ 5 := fun m hm => by
        cases List.mem_or_eq_of_mem_set hm with
        | inl q => exact Nat.le_succ_of_le (ho4 m q)
        | inr q => omega
      have hl1 : (os.set j (z.most + 1)).length = wd.kinds.length := by rw [List.length_set]; exact hol
      generalize os.set j (z.most + 1) = o1 at k h1 hb hgd ho5 hl1
      -- steps = stock_steps(ordered)
      refine ⟨_, rfl, ol, o1, rfl, h1, (by omega), ho5, fun H2 st s2 nst hst => ?_⟩
      have s02 : Same H H2 := s1.trans s2
      have Y2 := Y.same s02
      have hy2 := s02 _ _ hy
      -- table = all_outlooks(yard.parts, yard.kinds, steps)
      refine ⟨_, rfl, y, c.Y, dy, _, _, rfl, hy2, T.clY, T.yP, lk_0, _, rfl, y, c.Y, dy, _, _, rfl, hy2, T.clY, T.yK, lk_1, _, rfl, pa, ka, st, wd.stem, wd.kinds, o1, rfl, Y2.parts, wok.stem, Y2.kinds, wok.kinds, hst, hl1, ho5, fun H3 t s3 nt hT => ?_⟩
      have hst3 := s3 _ _ hst
      have hSp := stepAt_pos o1 o1.length
      -- fullest = steps[-1] - 1
      refine ⟨_, rfl, _, rfl, st, _, _, _, rfl, rfl, SqL.of hst3, steps_last, _, _, rfl, rfl, ?_⟩
      have hd0 : (digits o1 (stepAt o1 o1.length - 1)).getD j 0 ≠ 0 := by
        rw [digits_full, hgd]
        omega
      have hsub := digit_le o1 j _ hd0
      have hdm := digits_sub o1 j _ hd0
      rw [digits_full, hgd, Nat.add_sub_cancel, hb] at hdm
      obtain ⟨rs, as, ra, a, ht, e0, hra, e1, lga, ⟨da, hda⟩, _⟩ := hT.get (j := 0) (n := stepAt o1 o1.length - 1) (Nat.le_refl _) (Nat.zero_le _) (by omega)
      rw [digits_full, List.drop_zero] at hda
      obtain ⟨rs2, as2, ra2, a2, ht2, e02, hra2, e12, lga2, ⟨da2, hda2⟩, _⟩ := hT.get (j := 0) (n := stepAt o1 o1.length - 1 - stepAt o1 j) (Nat.le_refl _) (Nat.zero_le _) (by omega)
      rw [hdm, List.drop_zero] at hda2
      refine ⟨_, rfl, t, _, _, _, rfl, rfl, SqL.of ht, e0, _, rfl, ra, _, _, _, rfl, rfl, SqL.of hra, (by rw [show (stepAt o1 o1.length : Int) - 1 = ((stepAt o1 o1.length - 1 : Nat) : Int) by omega]; exact e1), a, c.O, da, _, _, rfl, hda, T.clO, T.oW, lk_0, ?_⟩
      refine ⟨_, rfl, t, _, _, _, rfl, rfl, SqL.of ht2, e02, _, rfl, _, rfl, _, rfl, st, _, _, _, rfl, rfl, SqL.of hst3, nat_at (stepsL_at (by omega)), _, _, rfl, rfl, ra2, _, _, _, rfl, rfl, SqL.of hra2, (by rw [show (stepAt o1 o1.length : Int) - 1 - (stepAt o1 j : Int) = ((stepAt o1 o1.length - 1 - stepAt o1 j : Nat) : Int) by omega]; exact e12), a2, c.O, da2, _, _, rfl, hda2, T.clO, T.oW, lk_0, _, _, rfl, rfl, ?_⟩
      exact ⟨(by show 1 ≤ sizeLine; decide), fun r nr => Ans.same k Y (s02.trans s3) nr⟩
    · refine ifT (decide_eq_true (by rw [hlen]; omega)) ?_
      have eS := step_more_none (List.getElem?_eq_none (Nat.le_of_not_lt hj))
      unfold stepOf at k
      rw [eS] at k
      exact ⟨(by show 1 ≤ sizeLine; decide), fun r nr => Ans.same k Y (Same.refl H) nr⟩
/-! ### list_places -/
def spPlaces (c : Cs) : Sp := fun vs H Q _ => ∃ (y pa ka oa : Addr) (w : Sw95.Wood), vs = [.ref y] ∧ YardAt c H y pa ka oa w ∧ WOk w ∧ Ans c H y pa ka oa w (stepOf w .grades) Q
theorem scPlaces : FnScope ["yard", "answer", "kind", "place", "places"] ["yard"] (defScope sPlaces) := ⟨rfl, rfl, rfl, by decide +kernel, rfl, by decide +kernel, by decide +kernel⟩
/-- what is answered of some kinds -/
def placesOut (w : Sw95.Wood) (zs : List Sw95.Kind) : List Int := zs.flatMap fun z => ((placesOf w z).length : Int) :: (placesOf w z).map fun (x : Nat) => (x : Int)
theorem places_out (w : Sw95.Wood) : stepOf w .grades = (w.stem.length : Int) :: placesOut w w.kinds := by
  unfold stepOf
  rw [step_places]
  show (w.stem.length : Int) :: ((w.kinds.map (placesOf w)).flatMap fun l => (l.length : Int) :: l.map fun (x : Nat) => (x : Int)) = _
  rw [List.flatMap_map]
  rfl
theorem placesOf_len (w : Sw95.Wood) (z : Sw95.Kind) : (placesOf w z).length ≤ w.stem.length := by
  unfold placesOf
  refine Nat.le_trans (List.length_filter_le _ _) ?_
  rw [List.length_range]
  exact Nat.le_refl _
theorem placesOut_len (w : Sw95.Wood) : ∀ zs : List Sw95.Kind, (placesOut w zs).length ≤ zs.length * (w.stem.length + 1)
  | [] => Nat.zero_le _
  | z :: zs => by
    have ih := placesOut_len w zs
    have hz := placesOf_len w z
    show (((placesOf w z).length : Int) :: (placesOf w z).map (fun (x : Nat) => (x : Int)) ++ placesOut w zs).length ≤ (zs.length + 1) * (w.stem.length + 1)
    rw [List.length_append, List.length_cons, List.length_map, Nat.add_mul, Nat.one_mul]
    omega
theorem ok_places {f : Addr} {fd : FuncData} (F : Fun K "list_places" "list_places" sPlaces f fd) (T : Txt K mg c) (GM : Cal P w K mg base 1 "may_be_cut" ["parts", "kind", "place"] (spMayCut c)) : FnOk P w K mg base CX0 2 f fd ["yard"] (spPlaces c) := by
  refine F.ok scPlaces (fun vs H Q E h => ?_) (fun cdv A outer s H vs Q E hr h => ?_)
  · obtain ⟨y, pa, ka, oa, wd, rfl, _⟩ := h
    rfl
  · obtain ⟨y, pa, ka, oa, wd, rfl, Y, wok, k⟩ := h
    refine ⟨_, pss_cons (ps_set (i := 1) scPlaces.nd rfl (Or.inl rfl) (pe_lst (pa_cons (pe_callB call_len_seq (by rfl) T.len PySem.boot_len (pa_cons (pe_fld (pv 0) rfl) pa_nil)) pa_nil)))
      (pss_cons (ps_for PassesOwn.never rfl (pi_list (pe_fld (pv 0) rfl)) (pg_name (i := 2) scPlaces.nd rfl (Or.inr rfl))
        (pss_cons (ps_setLc (i := 4) (own := [("place", 3)]) (g := gName 3) (tt := tB (tCall (spMayCut c) [] E0 (tCons (tFld K (tVar 0) "parts") (tCons (tVar 2) (tCons (tVar 3) tNil))))) (te := tVar 3)
          rfl scPlaces.nd rfl rfl (sw_true rfl rfl rfl (by decide +kernel)) (pi_range1 rfl T.range (pa_cons (pe_callB call_len_seq (by rfl) T.len PySem.boot_len (pa_cons (pe_fld (pv 0) rfl) pa_nil)) pa_nil))
          (blkOk_by (N := ["yard", "answer", "kind", "place", "places"]) (sc := defScope sPlaces) (by decide +kernel)) (fun _ _ _ _ _ => pg_name (i := 3) scPlaces.nd rfl (Or.inl rfl))
          (fun _ _ _ _ _ => by exact pts_one (pt_val (pe_cl GM hr (by decide) (by rfl) (pa_cons (pe_fld (pv 0) rfl) (pa_cons (pv 2) (pa_cons (pv 3) pa_nil))))))
          (fun _ _ _ _ _ => by exact pv 3))
        (pss_cons (ps_expr (pe_bm PySem.F.plainAttrs_list PySem.F.slot_list_append PySem.F.type_list_append mt_append (pv 1) (pa_cons (pe_callB call_len_seq (by rfl) T.len PySem.boot_len (pa_cons (pv 4) pa_nil)) pa_nil)))
        (pss_one (ps_expr (pe_bm PySem.F.plainAttrs_list PySem.F.slot_list_extend PySem.F.type_list_extend mt_extend (pv 1) (pa_cons (pv 4) pa_nil)))))))
      (pss_one (ps_ret (pv 1)))), ?_⟩
    obtain ⟨dy, hy⟩ := Y.obj
    obtain ⟨kas, hka, hko⟩ := id Y.kinds
    obtain ⟨pas, hpa, hpo⟩ := id Y.parts
    have h40 := wok.stem.1
    have h3 := wok.kinds.1
    have hlen : (pas.map V.ref).length = wd.stem.length := by rw [List.length_map, hpo.1]
    refine ⟨_, rfl, y, c.Y, dy, _, _, rfl, hy, T.clY, T.yP, lk_0, pa, _, rfl, .inl (SqL.of hpa), (by show 1 ≤ sizeLine; decide), fun r nr => ?_⟩
    rw [hlen]
    have s1 : Same H (upd H r (.lst [V.int (wd.stem.length : Int)])) := Same.new nr
    refine ⟨_, rfl, y, c.Y, dy, _, _, rfl, s1 _ _ hy, T.clY, T.yK, lk_1, ka, rfl, ⟨_, SqL.of (s1 _ _ hka)⟩, for_list (K := K) (a := ka) (xs := kas.map V.ref) (fun i σ H' => ∃ v2 v4 : Option V, σ = [some (.ref y), some (.ref r), v2, none, v4] ∧ Same H H' ∧
        H' r = some (.lst (((wd.stem.length : Int) :: placesOut wd (wd.kinds.take i)).map V.int)))
      ⟨none, none, rfl, s1, upd_same⟩ (fun i σ H' _ ⟨_, _, _, s5, _⟩ => SqL.of (s5 _ _ hka)) ?_ ?_⟩
    · rintro i x σ H' hi ⟨v2, v4, rfl, s5, hr5⟩
      obtain ⟨kz, hkz, rfl⟩ := map_at hi
      obtain ⟨z, hz, dk, hk⟩ := hko.at hkz
      have hil : i < wd.kinds.length := (List.getElem?_eq_some_iff.mp hz).1
      have Y5 := Y.same s5
      have hy5 := s5 _ _ hy
      refine ⟨_, rfl, y, c.Y, dy, _, _, rfl, hy5, T.clY, T.yP, lk_0, pa, _, rfl, .inl (SqL.of (s5 _ _ hpa)), (wd.stem.length : Int), (by rw [hlen]), by omega, by omega, fun D nD => ?_⟩
      refine lc_range (lo := 0) (n := ((wd.stem.length : Nat) : Int).toNat) (fun m H6 => Same H' H6 ∧ H6 D = some (.lst ((((List.range m).filter fun a => (Sw95.worth z (wd.stem.drop a)).isSome)).map fun (n : Nat) => V.int (n : Int)))) ⟨Same.new nD, upd_same⟩ ?_ ?_
      · rintro m H6 hm ⟨s6, hD⟩
        rw [Int.toNat_natCast] at hm
        have s06 : Same H H6 := s5.trans s6
        have Y6 := Y.same s06
        refine ⟨rfl, ?_⟩
        refine ⟨_, rfl, y, c.Y, dy, _, _, rfl, s06 _ _ hy, T.clY, T.yP, lk_0, _, rfl, _, rfl, pa, kz, wd.stem, z, m, (by rw [Int.zero_add]; rfl), Y6.parts, h40, ⟨dk, s06 _ _ hk⟩, (wok.kinds.at hz).1, fun H7 s7 => ⟨_, rfl, ?_⟩⟩
        have hD7 := s7 _ _ hD
        have hfl : ((List.range m).filter fun a => (Sw95.worth z (wd.stem.drop a)).isSome).length ≤ m := by
          refine Nat.le_trans (List.length_filter_le _ _) ?_
          rw [List.length_range]
          exact Nat.le_refl _
        cases hw : (Sw95.worth z (wd.stem.drop m)).isSome with
        | false =>
          refine ifF rfl ?_
          refine ⟨s6.trans s7, ?_⟩
          rw [List.range_succ, List.filter_append, List.filter_cons_of_neg (by rw [hw]; exact Bool.false_ne_true), List.filter_nil, List.append_nil]
          exact hD7
        | true =>
          refine ifT rfl ?_
          refine ⟨_, rfl, _, hD7, ?_, Same.grow (s6.trans s7) nD, ?_⟩
          · rw [List.length_map]
            exact line_of (by omega)
          · rw [upd_same, List.range_succ, List.filter_append, List.filter_cons_of_pos (p := fun a => (Sw95.worth z (wd.stem.drop a)).isSome) hw, List.filter_nil, List.map_append, Int.zero_add]
            rfl
      · rintro H6 ⟨s6, hD⟩
        rw [Int.toNat_natCast] at hD
        replace hD : H6 D = some (.lst ((placesOf wd z).map fun (n : Nat) => V.int (n : Int))) := hD
        have s06 : Same H H6 := s5.trans s6
        have hr6 := s6 _ _ hr5
        have nrD : D ≠ r := (ne_of_none hr5 nD).symm
        have hq := placesOut_len wd (wd.kinds.take i)
        have hp := placesOf_len wd z
        have hq2 : (placesOut wd (wd.kinds.take i)).length ≤ 3 * 41 := Nat.le_trans hq (Nat.mul_le_mul (by rw [List.length_take]; omega) (by omega))
        refine ⟨_, rfl, .inl ⟨rfl, _, SqL.of hr6⟩, _, rfl, D, _, rfl, .inl (SqL.of hD), r, _, _, rfl, rfl, hr6, ?_, ?_⟩
        · rw [List.length_map, List.length_cons]
          exact line_of (by omega)
        refine ⟨_, rfl, .inl ⟨rfl, _, SqL.of upd_same⟩, _, rfl, r, D, _, _, rfl, rfl, upd_same, (by rw [upd_ne nrD]; exact hD), ?_, ?_⟩
        · rw [List.length_append, List.length_map, List.length_map, List.length_singleton, List.length_cons]
          exact Nat.le_of_lt (line_of (by omega))
        rw [upd_upd]
        refine ⟨_, _, rfl, Same.grow s06 nr, ?_⟩
        rw [upd_same, take_more hz]
        unfold placesOut
        rw [List.flatMap_append, List.length_map]
        simp only [List.map_cons, List.map_append, List.cons_append, List.append_assoc, List.flatMap_cons, List.flatMap_nil, List.append_nil, List.map_map, List.nil_append]
        rfl
    · rintro σ H' ⟨v2, v4, rfl, s5, hr5⟩
      rw [List.length_map, hko.1, List.take_length] at hr5
      refine ⟨_, rfl, k H' pa r (Y.same s5) (.inl rfl) (fun b o e _ _ _ => s5 _ _ e) nr ?_⟩
      rw [places_out]
      exact hr5
end
end LC
namespace LC
open PySem PySem.Spec PyProof.Rows L2
/-! ### what holds of the wood, call by call -/
theorem kindOk_parts {z : Sw95.Kind} (h : Sw95.kindOk z = true) : 1 ≤ z.long ∧ z.long ≤ 40 ∧ z.price ≤ 1000 ∧ z.most ≤ 4 := by
  unfold Sw95.kindOk at h
  rw [Bool.and_eq_true, Bool.and_eq_true, Bool.and_eq_true, Bool.and_eq_true, Bool.and_eq_true] at h
  obtain ⟨h1, h2, h3, h4, h5, h6⟩ := h
  exact ⟨of_decide_eq_true h1, of_decide_eq_true h2, of_decide_eq_true h5, of_decide_eq_true h6⟩
theorem wok_init : WOk Sw95.init := ⟨⟨Nat.zero_le _, fun _ h => by cases h⟩, ⟨Nat.zero_le _, fun _ h => by cases h⟩, fun _ h => by cases h⟩
theorem wok_step {w : Sw95.Wood} (h : WOk w) : ∀ q : Sw95.Call, WOk (Sw95.step w q).1
  | .stem l => by
    cases hs : stemOk l with
    | false => rw [step_stem_bad hs]; exact h
    | true =>
      rw [step_stem hs]
      unfold stemOk at hs
      rw [Bool.and_eq_true] at hs
      refine ⟨⟨of_decide_eq_true hs.1, fun p hp => ?_⟩, h.kinds, h.most⟩
      exact (((stemGo_iff l 100 (Nat.le_refl _)).mp hs.2).1 p hp).2.1
  | .kind k => by
    cases hk : Sw95.kindOk k with
    | false => rw [step_kind_bad hk]; exact h
    | true =>
      by_cases h3 : w.kinds.length = 3
      · rw [step_kind_full hk h3]; exact h
      · have hl := h.kinds.1
        rw [step_kind hk (by omega)]
        obtain ⟨k1, k2, k3, k4⟩ := kindOk_parts hk
        refine ⟨h.stem, ⟨?_, fun z hz => ?_⟩, fun z hz => ?_⟩
        · show (w.kinds ++ [k]).length ≤ 3
          rw [List.length_append, List.length_singleton]
          omega
        · cases List.mem_append.mp hz with
          | inl q => exact h.kinds.2 z q
          | inr q => rw [List.mem_singleton.mp q]; exact ⟨k1, k2, k3⟩
        · cases List.mem_append.mp hz with
          | inl q => exact h.most z q
          | inr q => rw [List.mem_singleton.mp q]; exact k4
  | .order k n => by
    cases hz : w.kinds[k]? with
    | none => rw [step_order_none hz]; exact h
    | some z =>
      by_cases h4 : n ≤ 4
      · rw [step_order hz h4]
        have hm := List.mem_of_getElem? hz
        refine ⟨h.stem, ⟨?_, fun y hy => ?_⟩, fun y hy => ?_⟩
        · show (w.kinds.set k _).length ≤ 3
          rw [List.length_set]
          exact h.kinds.1
        · cases List.mem_or_eq_of_mem_set hy with
          | inl q => exact h.kinds.2 y q
          | inr q => rw [q]; exact h.kinds.2 z hm
        · cases List.mem_or_eq_of_mem_set hy with
          | inl q => exact h.most y q
          | inr q => rw [q]; exact h4
      · rw [step_order_big hz (by omega)]; exact h
  | .best => h
  | .check c => h
  | .more k => by
    have e : (Sw95.step w (.more k)).1 = w := by
      unfold Sw95.step
      dsimp only
      cases w.kinds[k]? <;> rfl
    rw [e]
    exact h
  | .grades => h
/-! ### a dict of the top with whole numbers as keys -/
def rIxDI (K : PySem.W.Frag) : R2 := fun x y H Q => ∃ p i v, x = .ref p ∧ y = .int i ∧ KDctI K p i v ∧ Q v H
theorem ix_kdictI {X : Cx} : IxR X (rIxDI X.K) := by
  intro _ _ pins s σ H x y v u Q I rx ry h plain
  obtain ⟨p, i, r, rfl, rfl, ⟨es, n, u0, hl, hk, e, ru⟩, q⟩ := h
  cases rx
  obtain ⟨t, rfl⟩ := ry
  have hm : s.heap.MapOf (intKind X.prog X.w) p (fun k => findBy Value.isInt es k) := by
    refine ⟨_, es, n, I.kIn _ _ hl, ⟨rfl, rfl, rfl⟩, rfl, fun d hd => ?_, fun _ => rfl⟩
    obtain ⟨j, t, e1, e2⟩ := hk d hd
    exact ⟨j, by rw [e1]; exact intKind_is X.prog X.w j t, e2⟩
  exact tail_any hm.typeIs slot_dict_getitem.lookup (wpAny_getItem_of (intKind_is X.prog X.w i t) hm e ⟨r, H, I.tok _, ru, q⟩) plain
end LC
namespace LC
open PySem PySem.Spec PyProof.Rows L2
/-! ### one call of the flat list -/
/-- a call's number, and the numbers behind it (a row without its count) -/
inductive NumsIs : Sw95.Call → Nat → List Nat → Prop
  | stem (ps : List Sw95.Part) : ps.length ≤ 60 → NumsIs (.stem ps) 0 (flatP ps)
  | kind (a b d e g : Nat) : NumsIs (.kind ⟨a, b, d, e, g⟩) 1 [a, b, d, e, g]
  | order (k n : Nat) : NumsIs (.order k n) 2 [k, n]
  | best : NumsIs .best 3 []
  | check (cs : List (Nat × Nat)) : cs.length ≤ 60 → NumsIs (.check cs) 4 (flatC cs)
  | more (k : Nat) : NumsIs (.more k) 5 [k]
  | grades : NumsIs .grades 6 []
theorem callIs_nums {l t : List Int} {q : Sw95.Call} (h : CallIs l q t) : ∃ (code : Nat) (ms : List Nat), NumsIs q code ms ∧
    (((code = 0 ∨ code = 4) ∧ l = (code : Int) :: (ms.length : Int) :: (cast ms ++ t)) ∨ (¬ (code = 0 ∨ code = 4) ∧ l = (code : Int) :: (cast ms ++ t))) := by
  cases h with
  | stem ps t h => exact ⟨0, _, .stem ps h, .inl ⟨.inl rfl, by rw [flat_len]; rfl⟩⟩
  | kind a b d e g t => exact ⟨1, _, .kind a b d e g, .inr ⟨by decide, rfl⟩⟩
  | order k n t => exact ⟨2, _, .order k n, .inr ⟨by decide, rfl⟩⟩
  | best t => exact ⟨3, _, .best, .inr ⟨by decide, rfl⟩⟩
  | check cs t h => exact ⟨4, _, .check cs h, .inl ⟨.inr rfl, by rw [flatC_len]; rfl⟩⟩
  | more k t => exact ⟨5, _, .more k, .inr ⟨by decide, rfl⟩⟩
  | grades t => exact ⟨6, _, .grades, .inr ⟨by decide, rfl⟩⟩
/-- the slice that holds the numbers -/
theorem cut_mid {ns : List Int} {i j : Nat} {pre : List Int} {ms : List Nat} {t : List Int} (h : ns.drop i = pre ++ (cast ms ++ t)) (hi : i ≤ ns.length) (hj : pre.length = j) :
    cutV (ns.map V.int) (some ((i + j : Nat) : Int)) (some ((i + j + ms.length : Nat) : Int)) = ms.map fun (n : Nat) => V.int (n : Int) := by
  have hl := congrArg List.length h
  rw [List.length_drop, List.length_append, List.length_append, hj] at hl
  unfold cast at hl
  rw [List.length_map] at hl
  unfold cutV
  rw [HT.sIx_nat, HT.sIx_nat, List.length_map, show min (i + j) ns.length = i + j by omega, show min (i + j + ms.length) ns.length - (i + j) = ms.length by omega]
  rw [← List.map_drop, ← List.map_take, ← List.drop_drop, h, ← hj, List.drop_left]
  have e : (cast ms ++ t).take ms.length = cast ms := by
    rw [List.take_append_of_le_length (by unfold cast; rw [List.length_map]; exact Nat.le_refl _), List.take_of_length_le (by unfold cast; rw [List.length_map]; exact Nat.le_refl _)]
  rw [e]
  unfold cast
  rw [List.map_map]
  rfl
theorem rest_of {ns : List Int} {i : Nat} {pre : List Int} {ms : List Nat} {t : List Int} (h : ns.drop i = pre ++ (cast ms ++ t)) : ns.drop (i + pre.length + ms.length) = t := by
  have e : pre.length + ms.length = (pre ++ cast ms).length := by
    unfold cast
    rw [List.length_append, List.length_map]
  rw [Nat.add_assoc, ← List.drop_drop, h, ← List.append_assoc, e, List.drop_left]
theorem at_drop {ns l : List Int} {i j : Nat} {x : Int} (h : ns.drop i = l) (hx : l[j]? = some x) : atI (ns.map V.int) ((i + j : Nat) : Int) = some (.int x) := by
  refine atI_nat ?_
  rw [List.getElem?_map, ← List.getElem?_drop, h, hx]
  rfl
/-- the yard, where another list changes -/
theorem YardAt.updL {c : Cs} {H : Hp} {y pa ka oa g : Addr} {w : Sw95.Wood} {xs : List V} {o : HO} (Y : YardAt c H y pa ka oa w) (hg : H g = some (.lst xs)) (np : g ≠ pa) (nk : g ≠ ka) (no : g ≠ oa) : YardAt c (L2.upd H g o) y pa ka oa w := by
  obtain ⟨pas, hp, hpo⟩ := Y.parts
  obtain ⟨kas, hk, hko⟩ := Y.kinds
  refine ⟨At.upd Y.obj hg, ⟨pas, ?_, hpo.mono fun a x q => At.upd q hg⟩, ⟨kas, ?_, hko.mono fun a x q => At.upd q hg⟩, ?_, Y.pk, Y.po, Y.ko⟩
  · rw [upd_ne np.symm]
    exact hp
  · rw [upd_ne nk.symm]
    exact hk
  · show (L2.upd H g o) oa = _
    rw [upd_ne no.symm]
    exact Y.ords
section
variable {P : Program} {w : World} {K : PySem.W.Frag} {mg : Str → Option Value} {base : Heap} {c : Cs}
/-! ### answer_call -/
def spCall (c : Cs) : Sp := fun vs H Q _ => ∃ (y nl pa ka oa : Addr) (w : Sw95.Wood) (q : Sw95.Call) (code : Nat) (ms : List Nat), vs = [.ref y, .int code, .ref nl] ∧ YardAt c H y pa ka oa w ∧ WOk w ∧ NumsIs q code ms ∧ IntsAt H nl ms ∧ nl ≠ ka ∧ nl ≠ oa ∧
  Ans c H y pa ka oa (Sw95.step w q).1 (stepOf w q) Q
theorem scCall : FnScope ["yard", "call", "numbers"] ["yard", "call", "numbers"] (defScope sCall) := ⟨rfl, rfl, rfl, by decide +kernel, rfl, by decide +kernel, by decide +kernel⟩
theorem ok_call {f : Addr} {fd : FuncData} (F : Fun K "answer_call" "answer_call" sCall f fd) (T : Txt K mg c) (GS : Cal P w K mg base 3 "set_stem" ["yard", "numbers"] (spSetStem c)) (GK : Cal P w K mg base 3 "add_kind" ["yard", "numbers"] (spAddKind c)) (GO : Cal P w K mg base 1 "change_order" ["yard", "number", "many"] (spOrder c))
    (GB : Cal P w K mg base 6 "find_best" ["yard"] (spBest c)) (GH : Cal P w K mg base 5 "check_logs" ["yard", "numbers"] (spCheck c)) (GM : Cal P w K mg base 6 "find_more" ["yard", "number"] (spMore c)) (GP : Cal P w K mg base 2 "list_places" ["yard"] (spPlaces c)) : FnOk P w K mg base CX0 7 f fd ["yard", "call", "numbers"] (spCall c) := by
  refine F.ok scCall (fun vs H Q E h => ?_) (fun cdv A outer s H vs Q E hr h => ?_)
  · obtain ⟨y, nl, pa, ka, oa, wd, q, code, ms, rfl, _⟩ := h
    rfl
  · obtain ⟨y, nl, pa, ka, oa, wd, q, code, ms, rfl, Y, wok, hN, hn, nk, no, k⟩ := h
    refine ⟨_, pss_cons (ps_if (pt_cmpR op_eq (pv 1) (pe_k (by rfl) T.cStem) (nomark _)) (pss_one (ps_ret (pe_cl GS hr (by decide) (by rfl) (pa_cons (pv 0) (pa_cons (pv 2) pa_nil))))) pss_nil)
      (pss_cons (ps_if (pt_cmpR op_eq (pv 1) (pe_k (by rfl) T.cKind) (nomark _)) (pss_one (ps_ret (pe_cl GK hr (by decide) (by rfl) (pa_cons (pv 0) (pa_cons (pv 2) pa_nil))))) pss_nil)
      (pss_cons (ps_if (pt_cmpR op_eq (pv 1) (pe_k (by rfl) T.cOrder) (nomark _)) (pss_one (ps_ret (pe_cl GO hr (by decide) (by rfl) (pa_cons (pv 0) (pa_cons (pe_ix ix_list (pv 2) pe_int (fun _ _ => rfl)) (pa_cons (pe_ix ix_list (pv 2) pe_int (fun _ _ => rfl)) pa_nil)))))) pss_nil)
      (pss_cons (ps_if (pt_cmpR op_eq (pv 1) (pe_k (by rfl) T.cBest) (nomark _)) (pss_one (ps_ret (pe_cl GB hr (by decide) (by rfl) (pa_cons (pv 0) pa_nil)))) pss_nil)
      (pss_cons (ps_if (pt_cmpR op_eq (pv 1) (pe_k (by rfl) T.cCheck) (nomark _)) (pss_one (ps_ret (pe_cl GH hr (by decide) (by rfl) (pa_cons (pv 0) (pa_cons (pv 2) pa_nil))))) pss_nil)
      (pss_cons (ps_if (pt_cmpR op_eq (pv 1) (pe_k (by rfl) T.cMore) (nomark _)) (pss_one (ps_ret (pe_cl GM hr (by decide) (by rfl) (pa_cons (pv 0) (pa_cons (pe_ix ix_list (pv 2) pe_int (fun _ _ => rfl)) pa_nil))))) pss_nil)
      (pss_one (ps_ret (pe_cl GP hr (by decide) (by rfl) (pa_cons (pv 0) pa_nil))))))))), ?_⟩
    refine ⟨_, rfl, rfl, _, rfl, ?_⟩
    cases hN with
    | stem ps h60 =>
      refine ifT rfl ?_
      exact ⟨_, rfl, _, rfl, y, nl, pa, ka, oa, wd, ps, rfl, Y, hn, h60, k⟩
    | kind a b d e g =>
      refine ifF rfl ?_
      refine ⟨_, rfl, rfl, _, rfl, ifT rfl ?_⟩
      exact ⟨_, rfl, _, rfl, y, nl, pa, ka, oa, wd, a, b, d, e, g, rfl, Y, wok, hn, nk, no, k⟩
    | order j n =>
      refine ifF rfl ?_
      refine ⟨_, rfl, rfl, _, rfl, ifF rfl ?_⟩
      refine ⟨_, rfl, rfl, _, rfl, ifT rfl ?_⟩
      exact ⟨_, rfl, _, rfl, nl, _, _, _, rfl, rfl, SqL.of hn, rfl, _, rfl, nl, _, _, _, rfl, rfl, SqL.of hn, rfl, y, pa, ka, oa, wd, j, n, rfl, Y, k⟩
    | best =>
      refine ifF rfl ?_
      refine ⟨_, rfl, rfl, _, rfl, ifF rfl ?_⟩
      refine ⟨_, rfl, rfl, _, rfl, ifF rfl ?_⟩
      refine ⟨_, rfl, rfl, _, rfl, ifT rfl ?_⟩
      exact ⟨_, rfl, y, pa, ka, oa, wd, rfl, Y, wok, k⟩
    | check cs h60 =>
      refine ifF rfl ?_
      refine ⟨_, rfl, rfl, _, rfl, ifF rfl ?_⟩
      refine ⟨_, rfl, rfl, _, rfl, ifF rfl ?_⟩
      refine ⟨_, rfl, rfl, _, rfl, ifF rfl ?_⟩
      refine ⟨_, rfl, rfl, _, rfl, ifT rfl ?_⟩
      exact ⟨_, rfl, _, rfl, y, nl, pa, ka, oa, wd, cs, rfl, Y, wok, hn, h60, k⟩
    | more j =>
      refine ifF rfl ?_
      refine ⟨_, rfl, rfl, _, rfl, ifF rfl ?_⟩
      refine ⟨_, rfl, rfl, _, rfl, ifF rfl ?_⟩
      refine ⟨_, rfl, rfl, _, rfl, ifF rfl ?_⟩
      refine ⟨_, rfl, rfl, _, rfl, ifF rfl ?_⟩
      refine ⟨_, rfl, rfl, _, rfl, ifT rfl ?_⟩
      refine ⟨_, rfl, _, rfl, nl, _, _, _, rfl, rfl, SqL.of hn, rfl, y, pa, ka, oa, wd, j, rfl, Y, wok, ?_⟩
      have e : (Sw95.step wd (.more j)).1 = wd := by
        cases hz : wd.kinds[j]? with
        | none => rw [step_more_none hz]
        | some z => rw [step_more hz]
      rw [e] at k
      exact k
    | grades =>
      refine ifF rfl ?_
      refine ⟨_, rfl, rfl, _, rfl, ifF rfl ?_⟩
      refine ⟨_, rfl, rfl, _, rfl, ifF rfl ?_⟩
      refine ⟨_, rfl, rfl, _, rfl, ifF rfl ?_⟩
      refine ⟨_, rfl, rfl, _, rfl, ifF rfl ?_⟩
      refine ⟨_, rfl, rfl, _, rfl, ifF rfl ?_⟩
      exact ⟨_, rfl, y, pa, ka, oa, wd, rfl, Y, wok, k⟩
/-! ### answers -/
def spAnswers (K : PySem.W.Frag) : Sp := fun vs H Q _ => ∃ (a : Addr) (ns : List Int), vs = [.ref a] ∧ SqL K H a (ns.map V.int) ∧ PySw95.answers_asked ns = true ∧ ∀ (H' : Hp) (p : Addr), H' p = some (.lst ((PySw95.answers ns).map V.int)) → Q (.ref p) H'
/-- whether a row stands behind a call's number -/
theorem row_yes {q : Sw95.Call} {code : Nat} {ms : List Nat} (h : NumsIs q code ms) (hc : code = 0 ∨ code = 4) : inV (.int (code : Int)) [.int 0, .int 4] = true := by
  rcases hc with rfl | rfl <;> rfl
theorem row_no {q : Sw95.Call} {code : Nat} {ms : List Nat} (h : NumsIs q code ms) (hc : ¬ (code = 0 ∨ code = 4)) : inV (.int (code : Int)) [.int 0, .int 4] = false := by
  cases h with
  | stem ps h => exact absurd (.inl rfl) hc
  | kind a b d e g => rfl
  | order k n => rfl
  | best => rfl
  | check cs h => exact absurd (.inr rfl) hc
  | more k => rfl
  | grades => rfl
theorem scAnswers : FnScope ["calls", "yard", "given_back", "at", "call", "start", "end", "answer"] ["calls"] (defScope sAnswers) := ⟨rfl, rfl, rfl, by decide +kernel, rfl, by decide +kernel, by decide +kernel⟩
def leftOver (n : Nat) (σ : List (Option V)) : Nat := match σ[3]? with
  | some (some (V.int x)) => ((n : Int) - x).toNat
  | _ => 0
/-- behind a new yard -/
theorem madeY {C : Addr} {H : Hp} {x dx : Addr} {Q : VK} {E : XK} (nx : H x = none) (nd : H dx = none) (ne : dx ≠ x)
    (k : ∀ (H' : Hp) (a b d : Addr), Same H H' → At C H' x (yardF a b d) → H a = none → H b = none → H d = none → a ≠ b → a ≠ d → b ≠ d → H' a = some (.lst []) → H' b = some (.lst []) → H' d = some (.lst []) → Q .non H') :
    spYardI C [.ref x] (upd (upd H dx (.own x)) x (.ins C dx [])) Q E := by
  refine ⟨x, dx, rfl, upd_same, fun H' a b d h1 na nb nd' ab ad bd ha hb hd kp => ?_⟩
  have fre : ∀ {z : Addr}, (upd (upd H dx (.own x)) x (.ins C dx [])) z = none → H z = none := fun {z} e => by
    have zx : z ≠ x := fun q => by rw [q, upd_same] at e; cases e
    rw [upd_ne zx] at e
    have zd : z ≠ dx := fun q => by rw [q, upd_same] at e; cases e
    rw [upd_ne zd] at e
    exact e
  exact k H' a b d (Same.made nx nd kp) ⟨dx, h1⟩ (fre na) (fre nb) (fre nd') ab ad bd ha hb hd
theorem ok_answers {f : Addr} {fd : FuncData} (F : Fun K "answers" "answers" sAnswers f fd) (T : Txt K mg c) (GY : Mkr P w K mg base "Yard" c.Y ["self"] (spYardI c.Y)) (GC : Cal P w K mg base 7 "answer_call" ["yard", "call", "numbers"] (spCall c)) : FnOk P w K mg base CX0 8 f fd ["calls"] (spAnswers K) := by
  refine F.ok scAnswers (fun vs H Q E h => ?_) (fun cdv A outer s H vs Q E hr h => ?_)
  · obtain ⟨a, ns, rfl, _⟩ := h
    rfl
  · obtain ⟨a, ns, rfl, hS, hask, k⟩ := h
    obtain ⟨qs0, hD, eA, hbig⟩ := asked_dec hask
    rw [eA] at k
    obtain ⟨fY, fdY, gY, mY, bY, okY⟩ := GY
    refine ⟨_, pss_cons (ps_set (i := 1) scAnswers.nd rfl (Or.inl rfl) (pe_make0 mY okY (hr.mono (by decide)) (by rfl) gY bY .nil pass0))
      (pss_cons (ps_set (i := 2) scAnswers.nd rfl (Or.inl rfl) (pe_lst pa_nil))
      (pss_cons (ps_set (i := 3) scAnswers.nd rfl (Or.inl rfl) pe_int)
      (pss_cons (ps_while PassesOwn.never (pt_cmpR op_lt (pv 3) (pe_callB call_len_seq (by rfl) T.len PySem.boot_len (pa_cons (pv 0) pa_nil)) (nomark _))
        (pss_cons (ps_set (i := 4) scAnswers.nd rfl (Or.inl rfl) (pe_ix ix_list (pv 0) (pv 3) (fun _ _ => rfl)))
        (pss_cons (ps_if (pt_cmpR op_in_seq (pv 4) (pe_k (by rfl) T.cRow) (by with_unfolding_all rfl))
          (pss_cons (ps_set (i := 5) scAnswers.nd rfl (Or.inl rfl) (pe_op op_add (pv 3) pe_int))
          (pss_one (ps_set (i := 6) scAnswers.nd rfl (Or.inl rfl) (pe_op op_add (pv 5) (pe_ix ix_list (pv 0) (pe_op op_add (pv 3) pe_int) (fun _ _ => rfl))))))
          (pss_cons (ps_set (i := 5) scAnswers.nd rfl (Or.inl rfl) (pe_op op_add (pv 3) pe_int))
          (pss_one (ps_set (i := 6) scAnswers.nd rfl (Or.inl rfl) (pe_op op_add (pv 5) (pe_ix ix_kdictI (pe_k (by rfl) T.cWhole) (pv 4) (fun _ _ => rfl)))))))
        (pss_cons (ps_set (i := 7) scAnswers.nd rfl (Or.inl rfl) (pe_cl GC hr (by decide) (by rfl) (pa_cons (pv 1) (pa_cons (pv 4) (pa_cons (pe_slice sl_list (pv 0) (po_some (pv 5)) (po_some (pv 6))) pa_nil)))))
        (pss_cons (ps_expr (pe_bm PySem.F.plainAttrs_list PySem.F.slot_list_append PySem.F.type_list_append mt_append (pv 2) (pa_cons (pe_callB call_len_seq (by rfl) T.len PySem.boot_len (pa_cons (pv 7) pa_nil)) pa_nil)))
        (pss_cons (ps_expr (pe_bm PySem.F.plainAttrs_list PySem.F.slot_list_extend PySem.F.type_list_extend mt_extend (pv 2) (pa_cons (pv 7) pa_nil)))
        (pss_one (ps_set (i := 3) scAnswers.nd rfl (Or.inl rfl) (pv 6)))))))))
      (pss_one (ps_ret (pv 2)))))), ?_⟩
    intro y dy ny ndy ney
    refine madeY ny ndy ney fun H1 pa0 ka oa s1 hy npa nka noa npk npo nko hpa hka hoa => ⟨rfl, ?_⟩
    refine ⟨Nat.zero_le _, fun g ng => ?_⟩
    have ng0 : H g = none := s1.free ng
    have gk : g ≠ ka := (ne_of_none hka ng).symm
    have go : g ≠ oa := (ne_of_none hoa ng).symm
    have gy : g ≠ y := by
      obtain ⟨_, e⟩ := hy
      exact (ne_of_none e ng).symm
    refine while_by (fun σ H' => ∃ (i : Nat) (wd : Sw95.Wood) (qs : List Sw95.Call) (done : List Int) (pa : Addr) (v4 v5 v6 v7 : Option V), σ = [some (.ref a), some (.ref y), some (.ref g), some (.int i), v4, v5, v6, v7] ∧ i ≤ ns.length ∧ Dec (ns.drop i) qs ∧ WOk wd ∧ YardAt c H' y pa ka oa wd ∧
        g ≠ pa ∧ H' g = some (.lst (done.map V.int)) ∧ runOut Sw95.init qs0 = done ++ runOut wd qs ∧ Same H H') (fun σ _ => leftOver ns.length σ)
      ⟨0, Sw95.init, qs0, [], pa0, none, none, none, none, rfl, Nat.zero_le _, hD, wok_init, ?_, ?_, upd_same, rfl, Same.grow s1 ng0⟩ ?_ ?_
    · refine ⟨hy.same (Same.new ng), ⟨[], Same.new ng _ _ hpa, Objs.nil⟩, ⟨[], Same.new ng _ _ hka, Objs.nil⟩, Same.new ng _ _ hoa, npk, npo, nko⟩
    · exact (ne_of_none hpa ng).symm
    · rintro σ H' ⟨i, wd, qs, done, pa, v4, v5, v6, v7, rfl, hi, hd, wok, Y, gp, hg, eR, s5⟩
      have hS5 := s5.seq hS
      refine ⟨_, rfl, _, rfl, a, _, rfl, .inl hS5, _, _, rfl, rfl, _, rfl, ?_⟩
      have hlen : ((ns.map V.int).length : Int) = (ns.length : Int) := by rw [List.length_map]
      cases qs with
      | nil =>
        have e0 : ns.drop i = [] := by
          generalize ns.drop i = l at hd
          cases hd
          rfl
        have el : ns.length ≤ i := by
          have := congrArg List.length e0
          rw [List.length_drop, List.length_nil] at this
          omega
        refine ifF (decide_eq_false (by rw [hlen]; omega)) ?_
        refine ⟨_, rfl, k H' g ?_⟩
        rw [eR]
        show H' g = some (.lst ((done ++ []).map V.int))
        rw [List.append_nil]
        exact hg
      | cons q qs =>
        generalize eL : ns.drop i = l at hd
        cases hd with
        | cons hc hd' =>
        rename_i t
        obtain ⟨code, ms, hN, hL⟩ := callIs_nums hc
        have eR' : runOut Sw95.init qs0 = (done ++ ((stepOf wd q).length : Int) :: stepOf wd q) ++ runOut (Sw95.step wd q).1 qs := by
          rw [eR, List.append_assoc]
          rfl
        have hbig' : done.length + 1 + (stepOf wd q).length ≤ 10000000 := by
          have e := congrArg List.length eR'
          rw [List.length_append, List.length_append, List.length_cons] at e
          omega
        have hpos : i < ns.length := by
          have e := congrArg List.length eL
          rw [List.length_drop] at e
          have : 1 ≤ l.length := by
            rcases hL with ⟨_, el⟩ | ⟨_, el⟩ <;> rw [el] <;> exact Nat.succ_le_succ (Nat.zero_le _)
          omega
        refine ifT (decide_eq_true (by rw [hlen]; omega)) ?_
        have a0 : atI (ns.map V.int) (i : Int) = some (.int code) := by
          refine at_drop (j := 0) eL ?_
          rcases hL with ⟨_, el⟩ | ⟨_, el⟩ <;> rw [el] <;> rfl
        refine ⟨_, rfl, _, rfl, a, _, _, _, rfl, rfl, hS5, a0, ?_⟩
        refine ⟨_, rfl, c.rw, _, rfl, .inr (T.tRow H'), rfl, rfl, _, rfl, ?_⟩
        rcases hL with ⟨hc, el⟩ | ⟨hc, el⟩
        · refine ifT (row_yes hN hc) ?_
          have a1 : atI (ns.map V.int) ((i : Int) + 1) = some (.int (ms.length : Int)) := by
            refine at_drop (j := 1) eL ?_
            rw [el]
            rfl
          refine ⟨_, rfl, _, _, rfl, rfl, ?_⟩
          refine ⟨_, rfl, _, rfl, _, rfl, _, _, rfl, rfl, a, _, _, _, rfl, rfl, hS5, a1, _, _, rfl, rfl, ?_⟩
          replace el : l = [(code : Int), (ms.length : Int)] ++ (cast ms ++ t) := el
          have el' := eL.trans el
          have eT : ns.drop (i + 2 + ms.length) = t := rest_of el'
          have hl2 : i + 2 + ms.length ≤ ns.length := by
            have e := congrArg List.length el'
            rw [List.length_drop, List.length_append, List.length_append] at e
            have e2 : (cast ms).length = ms.length := by unfold cast; rw [List.length_map]
            have e3 : ([(code : Int), (ms.length : Int)] : List Int).length = 2 := rfl
            omega
          have cs : cutV (ns.map V.int) (some ((i : Int) + 2)) (some ((i : Int) + 2 + (ms.length : Int))) = ms.map fun (n : Nat) => V.int (n : Int) := by
            rw [show (i : Int) + 2 = ((i + 2 : Nat) : Int) by omega, show ((i + 2 : Nat) : Int) + (ms.length : Int) = ((i + 2 + ms.length : Nat) : Int) by omega]
            exact cut_mid el' hi rfl
          refine ⟨_, rfl, _, rfl, _, rfl, _, rfl, _, rfl, _, rfl, _, rfl, a, _, rfl, hS5, fun nl nnl => ?_⟩
          rw [cs]
          have s6 : Same H' (upd H' nl (.lst (ms.map fun (n : Nat) => V.int (n : Int)))) := Same.new nnl
          refine ⟨y, nl, pa, ka, oa, wd, q, code, ms, rfl, Y.same s6, wok, hN, upd_same, ?_, ?_, fun H3 pa' r Y3 hp fr nr hr3 => ?_⟩
          · obtain ⟨_, e, _⟩ := Y.kinds
            exact (ne_of_none e nnl).symm
          · exact (ne_of_none Y.ords nnl).symm
          have hg2 := s6 _ _ hg
          have hg3 : H3 g = some (.lst (done.map V.int)) := fr _ _ hg2 gy gk go
          have rg : r ≠ g := (ne_of_none hg2 nr).symm
          have gp3 : g ≠ pa' := by
            cases hp with
            | inl e => rw [e]; exact gp
            | inr e => exact ne_of_none hg2 e
          refine ⟨_, rfl, .inl ⟨rfl, _, SqL.of hg3⟩, _, rfl, r, _, rfl, .inl (SqL.of hr3), g, _, _, rfl, rfl, hg3, ?_, ?_⟩
          · rw [List.length_map]
            exact line_of (by omega)
          refine ⟨_, rfl, .inl ⟨rfl, _, SqL.of upd_same⟩, _, rfl, g, r, _, _, rfl, rfl, upd_same, (by rw [upd_ne rg]; exact hr3), ?_, ?_⟩
          · rw [List.length_append, List.length_map, List.length_map, List.length_singleton]
            exact Nat.le_of_lt (line_of (by omega))
          rw [upd_upd]
          have s7 : Same H H3 := fun b o e => by
            have nby : b ≠ y := ne_of_none e ny
            have nbk : b ≠ ka := ne_of_none e nka
            have nbo : b ≠ oa := ne_of_none e noa
            exact fr b o (s6 _ _ (s5 _ _ e)) nby nbk nbo
          refine ⟨_, rfl, ⟨i + 2 + ms.length, (Sw95.step wd q).1, qs, _, pa', some (.int (code : Int)), some (.int ((i : Int) + 2)), some (.int ((i + 2 + ms.length : Nat) : Int)), some (.ref r), ?_, hl2, by rw [eT]; exact hd', wok_step wok q, Y3.updL hg3 gp3 gk go, gp3, ?_, eR', Same.grow s7 ng0⟩, ?_⟩
          · show [some (V.ref a), some (V.ref y), some (V.ref g), some (V.int ((i : Int) + 2 + (ms.length : Int))), some (V.int (code : Int)), some (V.int ((i : Int) + 2)), some (V.int ((i : Int) + 2 + (ms.length : Int))), some (V.ref r)] = _
            rw [show (i : Int) + 2 + (ms.length : Int) = ((i + 2 + ms.length : Nat) : Int) by omega]
          · rw [upd_same, List.map_append, List.map_cons, List.append_assoc]
            rw [List.length_map]
            rfl
          · show ((ns.length : Int) - ((i : Int) + 2 + (ms.length : Int))).toNat < ((ns.length : Int) - (i : Int)).toNat
            omega
        · refine ifF (row_no hN hc) ?_
          have hw : KDctI K c.wn (code : Int) (.int (ms.length : Int)) := by
            cases hN with
            | stem ps h => exact absurd (.inl rfl) hc
            | kind a b d e g => exact T.dWhole1
            | order k n => exact T.dWhole2
            | best => exact T.dWhole3
            | check cs h => exact absurd (.inr rfl) hc
            | more k => exact T.dWhole5
            | grades => exact T.dWhole6
          refine ⟨_, rfl, _, _, rfl, rfl, ?_⟩
          refine ⟨_, rfl, _, rfl, c.wn, _, _, rfl, rfl, hw, _, _, rfl, rfl, ?_⟩
          replace el : l = [(code : Int)] ++ (cast ms ++ t) := el
          have el' := eL.trans el
          have eT : ns.drop (i + 1 + ms.length) = t := rest_of el'
          have hl2 : i + 1 + ms.length ≤ ns.length := by
            have e := congrArg List.length el'
            rw [List.length_drop, List.length_append, List.length_append] at e
            have e2 : (cast ms).length = ms.length := by unfold cast; rw [List.length_map]
            have e3 : ([(code : Int)] : List Int).length = 1 := rfl
            omega
          have cs : cutV (ns.map V.int) (some ((i : Int) + 1)) (some ((i : Int) + 1 + (ms.length : Int))) = ms.map fun (n : Nat) => V.int (n : Int) := by
            rw [show (i : Int) + 1 = ((i + 1 : Nat) : Int) by omega, show ((i + 1 : Nat) : Int) + (ms.length : Int) = ((i + 1 + ms.length : Nat) : Int) by omega]
            exact cut_mid el' hi rfl
          refine ⟨_, rfl, _, rfl, _, rfl, _, rfl, _, rfl, _, rfl, _, rfl, a, _, rfl, hS5, fun nl nnl => ?_⟩
          rw [cs]
          have s6 : Same H' (upd H' nl (.lst (ms.map fun (n : Nat) => V.int (n : Int)))) := Same.new nnl
          refine ⟨y, nl, pa, ka, oa, wd, q, code, ms, rfl, Y.same s6, wok, hN, upd_same, ?_, ?_, fun H3 pa' r Y3 hp fr nr hr3 => ?_⟩
          · obtain ⟨_, e, _⟩ := Y.kinds
            exact (ne_of_none e nnl).symm
          · exact (ne_of_none Y.ords nnl).symm
          have hg2 := s6 _ _ hg
          have hg3 : H3 g = some (.lst (done.map V.int)) := fr _ _ hg2 gy gk go
          have rg : r ≠ g := (ne_of_none hg2 nr).symm
          have gp3 : g ≠ pa' := by
            cases hp with
            | inl e => rw [e]; exact gp
            | inr e => exact ne_of_none hg2 e
          refine ⟨_, rfl, .inl ⟨rfl, _, SqL.of hg3⟩, _, rfl, r, _, rfl, .inl (SqL.of hr3), g, _, _, rfl, rfl, hg3, ?_, ?_⟩
          · rw [List.length_map]
            exact line_of (by omega)
          refine ⟨_, rfl, .inl ⟨rfl, _, SqL.of upd_same⟩, _, rfl, g, r, _, _, rfl, rfl, upd_same, (by rw [upd_ne rg]; exact hr3), ?_, ?_⟩
          · rw [List.length_append, List.length_map, List.length_map, List.length_singleton]
            exact Nat.le_of_lt (line_of (by omega))
          rw [upd_upd]
          have s7 : Same H H3 := fun b o e => by
            have nby : b ≠ y := ne_of_none e ny
            have nbk : b ≠ ka := ne_of_none e nka
            have nbo : b ≠ oa := ne_of_none e noa
            exact fr b o (s6 _ _ (s5 _ _ e)) nby nbk nbo
          refine ⟨_, rfl, ⟨i + 1 + ms.length, (Sw95.step wd q).1, qs, _, pa', some (.int (code : Int)), some (.int ((i : Int) + 1)), some (.int ((i + 1 + ms.length : Nat) : Int)), some (.ref r), ?_, hl2, by rw [eT]; exact hd', wok_step wok q, Y3.updL hg3 gp3 gk go, gp3, ?_, eR', Same.grow s7 ng0⟩, ?_⟩
          · show [some (V.ref a), some (V.ref y), some (V.ref g), some (V.int ((i : Int) + 1 + (ms.length : Int))), some (V.int (code : Int)), some (V.int ((i : Int) + 1)), some (V.int ((i : Int) + 1 + (ms.length : Int))), some (V.ref r)] = _
            rw [show (i : Int) + 1 + (ms.length : Int) = ((i + 1 + ms.length : Nat) : Int) by omega]
          · rw [upd_same, List.map_append, List.map_cons, List.append_assoc]
            rw [List.length_map]
            rfl
          · show ((ns.length : Int) - ((i : Int) + 1 + (ms.length : Int))).toNat < ((ns.length : Int) - (i : Int)).toNat
            omega
    · rintro σ H' Q1 Q2 m ⟨v, e1, v2, e2, p, ys, e3, e4, i2, j2, e7, e8, kk, e9, q⟩
      exact ⟨v, e1, v2, e2, p, ys, e3, e4, i2, j2, e7, e8, kk, e9, m _ _ q⟩
end
end LC
namespace LC
open PySem PySem.Spec PyProof.Rows L2
/-- a def of the top -/
def FnT (K : PySem.W.Frag) (mg : Str → Option Value) (x : Str) (st : Stmt) : Prop := ∃ (f : Addr) (fd : FuncData), mg x = some (.ref f) ∧ PySem.W.keepIn K (.ref f) = true ∧ Fun K x x st f fd
/-- a class's __init__ -/
def IniT (K : PySem.W.Frag) (C : Addr) (qual : Str) (st : Stmt) : Prop := ∃ (f : Addr) (fd : FuncData), Mk K C f ∧ Fun K "__init__" qual st f fd
theorem fn_of {K : PySem.W.Frag} {h : Heap} {mg : Str → Option Value} {x : Str} {st : Stmt} {f : Addr} {oc : Value} {od an : Option Addr} {osl : Array (Option Value)} {kV doc pm cdv ct : Value} (X : K.In h) (G : h.Ns mainGlobals mg) (a : PySem.W.nsIn K mainGlobals x = some (some (.ref f)))
    (l : K.lookup f = some ⟨oc, od, .func (PySem.W.fnOf x x (defArgs st) (defBody st) (defScope st) .none kV doc pm an cdv ct), osl⟩) (c : PySem.W.codeIn K cdv x = true) (k : PySem.W.keepIn K (.ref f) = true) : FnT K mg x st :=
  ⟨f, _, PySem.W.mg_of X G a, k, fun_mk l c k⟩
theorem ini_of {K : PySem.W.Frag} {C : Addr} {qual : Str} {st : Stmt} {f : Addr} {oc : Value} {od an : Option Addr} {osl : Array (Option Value)} {kV doc pm cdv ct : Value} (mk : PySem.W.makesIn K C = true) (kc : PySem.W.keepIn K (.ref C) = true) (a : PySem.W.findIn K (.ref C) "__init__" = some (some (.ref f))) (i : PySem.W.isFn K (.ref f) = true)
    (l : K.lookup f = some ⟨oc, od, .func (PySem.W.fnOf "__init__" qual (defArgs st) (defBody st) (defScope st) .none kV doc pm an cdv ct), osl⟩) (c : PySem.W.codeIn K cdv qual = true) (k : PySem.W.keepIn K (.ref f) = true) : IniT K C qual st :=
  ⟨f, _, ⟨mk, a, i, kc⟩, fun_mk l c k⟩
theorem cst_int {K : PySem.W.Frag} {h : Heap} {mg : Str → Option Value} {x : Str} {i : Int} {t : Tok} (X : K.In h) (G : h.Ns mainGlobals mg) (a : PySem.W.nsIn K mainGlobals x = some (some (.int i t))) : Cst mg x (.int i) := ⟨_, PySem.W.mg_of X G a, t, rfl⟩
theorem cst_ref {K : PySem.W.Frag} {h : Heap} {mg : Str → Option Value} {x : Str} {p : Addr} (X : K.In h) (G : h.Ns mainGlobals mg) (a : PySem.W.nsIn K mainGlobals x = some (some (.ref p))) : Cst mg x (.ref p) := ⟨_, PySem.W.mg_of X G a, rfl⟩
structure Top (K : PySem.W.Frag) (mg : Str → Option Value) (c : Cs) : Prop where
  txt : Txt K mg c
  iP : IniT K c.P "Part.__init__" sPartI
  iK : IniT K c.K "Kind.__init__" sKindI
  iY : IniT K c.Y "Yard.__init__" sYardI
  iL : IniT K c.L "Log.__init__" sLogI
  iO : IniT K c.O "Outlook.__init__" sOutI
  fIsStem : FnT K mg "is_stem" sIsStem
  fSetStem : FnT K mg "set_stem" sSetStem
  fIsKind : FnT K mg "is_kind" sIsKind
  fAddKind : FnT K mg "add_kind" sAddKind
  fOrder : FnT K mg "change_order" sOrder
  fMayCut : FnT K mg "may_be_cut" sMayCut
  fCutLog : FnT K mg "cut_log" sCutLog
  fWaste : FnT K mg "count_waste" sWaste
  fLogsFrom : FnT K mg "logs_from" sLogsFrom
  fSteps : FnT K mg "stock_steps" sSteps
  fInStock : FnT K mg "in_stock" sInStock
  fOutAt : FnT K mg "outlook_at" sOutAt
  fAllOut : FnT K mg "all_outlooks" sAllOut
  fEarly : FnT K mg "earliest_logs" sEarly
  fBest : FnT K mg "find_best" sBest
  fCutting : FnT K mg "cutting_of" sCutting
  fCheck : FnT K mg "check_logs" sCheck
  fMore : FnT K mg "find_more" sMore
  fPlaces : FnT K mg "list_places" sPlaces
  fCall : FnT K mg "answer_call" sCall
  fAnswers : FnT K mg "answers" sAnswers
theorem top_mk {K : PySem.W.Frag} {h : Heap} {mg : Str → Option Value} (X : K.In h) (G : h.Ns mainGlobals mg)
    {CP : Addr}
    {fiP : Addr} {odiP aniP : Option Addr} {sliP : Array (Option Value)} {ociP kViP dciP pmiP cdiP ctiP : Value}
    {CK : Addr}
    {fiK : Addr} {odiK aniK : Option Addr} {sliK : Array (Option Value)} {ociK kViK dciK pmiK cdiK ctiK : Value}
    {CY : Addr}
    {fiY : Addr} {odiY aniY : Option Addr} {sliY : Array (Option Value)} {ociY kViY dciY pmiY cdiY ctiY : Value}
    {CL : Addr}
    {fiL : Addr} {odiL aniL : Option Addr} {sliL : Array (Option Value)} {ociL kViL dciL pmiL cdiL ctiL : Value}
    {CO : Addr}
    {fiO : Addr} {odiO aniO : Option Addr} {sliO : Array (Option Value)} {ociO kViO dciO pmiO cdiO ctiO : Value}
    {ff0 : Addr} {odf0 anf0 : Option Addr} {slf0 : Array (Option Value)} {ocf0 kVf0 dcf0 pmf0 cdf0 ctf0 : Value}
    {ff1 : Addr} {odf1 anf1 : Option Addr} {slf1 : Array (Option Value)} {ocf1 kVf1 dcf1 pmf1 cdf1 ctf1 : Value}
    {ff2 : Addr} {odf2 anf2 : Option Addr} {slf2 : Array (Option Value)} {ocf2 kVf2 dcf2 pmf2 cdf2 ctf2 : Value}
    {ff3 : Addr} {odf3 anf3 : Option Addr} {slf3 : Array (Option Value)} {ocf3 kVf3 dcf3 pmf3 cdf3 ctf3 : Value}
    {ff4 : Addr} {odf4 anf4 : Option Addr} {slf4 : Array (Option Value)} {ocf4 kVf4 dcf4 pmf4 cdf4 ctf4 : Value}
    {ff5 : Addr} {odf5 anf5 : Option Addr} {slf5 : Array (Option Value)} {ocf5 kVf5 dcf5 pmf5 cdf5 ctf5 : Value}
    {ff6 : Addr} {odf6 anf6 : Option Addr} {slf6 : Array (Option Value)} {ocf6 kVf6 dcf6 pmf6 cdf6 ctf6 : Value}
    {ff7 : Addr} {odf7 anf7 : Option Addr} {slf7 : Array (Option Value)} {ocf7 kVf7 dcf7 pmf7 cdf7 ctf7 : Value}
    {ff8 : Addr} {odf8 anf8 : Option Addr} {slf8 : Array (Option Value)} {ocf8 kVf8 dcf8 pmf8 cdf8 ctf8 : Value}
    {ff9 : Addr} {odf9 anf9 : Option Addr} {slf9 : Array (Option Value)} {ocf9 kVf9 dcf9 pmf9 cdf9 ctf9 : Value}
    {ff10 : Addr} {odf10 anf10 : Option Addr} {slf10 : Array (Option Value)} {ocf10 kVf10 dcf10 pmf10 cdf10 ctf10 : Value}
    {ff11 : Addr} {odf11 anf11 : Option Addr} {slf11 : Array (Option Value)} {ocf11 kVf11 dcf11 pmf11 cdf11 ctf11 : Value}
    {ff12 : Addr} {odf12 anf12 : Option Addr} {slf12 : Array (Option Value)} {ocf12 kVf12 dcf12 pmf12 cdf12 ctf12 : Value}
    {ff13 : Addr} {odf13 anf13 : Option Addr} {slf13 : Array (Option Value)} {ocf13 kVf13 dcf13 pmf13 cdf13 ctf13 : Value}
    {ff14 : Addr} {odf14 anf14 : Option Addr} {slf14 : Array (Option Value)} {ocf14 kVf14 dcf14 pmf14 cdf14 ctf14 : Value}
    {ff15 : Addr} {odf15 anf15 : Option Addr} {slf15 : Array (Option Value)} {ocf15 kVf15 dcf15 pmf15 cdf15 ctf15 : Value}
    {ff16 : Addr} {odf16 anf16 : Option Addr} {slf16 : Array (Option Value)} {ocf16 kVf16 dcf16 pmf16 cdf16 ctf16 : Value}
    {ff17 : Addr} {odf17 anf17 : Option Addr} {slf17 : Array (Option Value)} {ocf17 kVf17 dcf17 pmf17 cdf17 ctf17 : Value}
    {ff18 : Addr} {odf18 anf18 : Option Addr} {slf18 : Array (Option Value)} {ocf18 kVf18 dcf18 pmf18 cdf18 ctf18 : Value}
    {ff19 : Addr} {odf19 anf19 : Option Addr} {slf19 : Array (Option Value)} {ocf19 kVf19 dcf19 pmf19 cdf19 ctf19 : Value}
    {ff20 : Addr} {odf20 anf20 : Option Addr} {slf20 : Array (Option Value)} {ocf20 kVf20 dcf20 pmf20 cdf20 ctf20 : Value}
    {tcStem : Tok}
    {tcKind : Tok}
    {tcOrder : Tok}
    {tcBest : Tok}
    {tcCheck : Tok}
    {tcMore : Tok}
    {tcTold : Tok}
    {tcNoKind : Tok}
    {tcNoMore : Tok}
    {tcNoCut : Tok}
    {tcParts : Tok}
    {tcThick : Tok}
    {tcGrade : Tok}
    {tcKinds : Tok}
    {tcMost : Tok}
    {Arw : Addr} {odrw : Option Addr} {nrw : Nat} {slrw : Array (Option Value)} {trw0 trw1 : Tok}
    {Alo : Addr} {odlo : Option Addr} {nlo : Nat} {sllo : Array (Option Value)} {tlo0 tlo1 tlo2 tlo3 tlo4 : Tok}
    {Ahi : Addr} {odhi : Option Addr} {nhi : Nat} {slhi : Array (Option Value)} {thi0 thi1 thi2 thi3 thi4 : Tok}
    {Awn : Addr} {eswn : Array DictEntry} {nwn : Nat}
    {twn1 : Tok}
    {twn2 : Tok}
    {twn3 : Tok}
    {twn5 : Tok}
    {twn6 : Tok}
    (gP : PySem.W.nsIn K mainGlobals "Part" = some (some (.ref CP)))
    (pgP : PySem.W.plainGet K CP Str.empty = true)
    (hdP : PySem.W.hasDictIn K CP = true)
    (poP : PySem.W.plainOver K CP = true)
    (saP : PySem.W.findIn K (.ref CP) "__setattr__" = some (some (.builtin "object.__setattr__")))
    (mkP : PySem.W.makesIn K CP = true)
    (kcP : PySem.W.keepIn K (.ref CP) = true)
    (npT : PySem.W.findIn K (.ref CP) "thickness" = some none)
    (npG : PySem.W.findIn K (.ref CP) "grade" = some none)
    (aiP : PySem.W.findIn K (.ref CP) "__init__" = some (some (.ref fiP)))
    (iiP : PySem.W.isFn K (.ref fiP) = true)
    (liP : K.lookup fiP = some ⟨ociP, odiP, .func (PySem.W.fnOf "__init__" "Part.__init__" (defArgs sPartI) (defBody sPartI) (defScope sPartI) .none kViP dciP pmiP aniP cdiP ctiP), sliP⟩)
    (ciP : PySem.W.codeIn K cdiP "Part.__init__" = true)
    (kiP : PySem.W.keepIn K (.ref fiP) = true)
    (gK : PySem.W.nsIn K mainGlobals "Kind" = some (some (.ref CK)))
    (pgK : PySem.W.plainGet K CK Str.empty = true)
    (hdK : PySem.W.hasDictIn K CK = true)
    (poK : PySem.W.plainOver K CK = true)
    (saK : PySem.W.findIn K (.ref CK) "__setattr__" = some (some (.builtin "object.__setattr__")))
    (mkK : PySem.W.makesIn K CK = true)
    (kcK : PySem.W.keepIn K (.ref CK) = true)
    (nkL : PySem.W.findIn K (.ref CK) "length" = some none)
    (nkT : PySem.W.findIn K (.ref CK) "thickness" = some none)
    (nkG : PySem.W.findIn K (.ref CK) "grade" = some none)
    (nkP : PySem.W.findIn K (.ref CK) "price" = some none)
    (aiK : PySem.W.findIn K (.ref CK) "__init__" = some (some (.ref fiK)))
    (iiK : PySem.W.isFn K (.ref fiK) = true)
    (liK : K.lookup fiK = some ⟨ociK, odiK, .func (PySem.W.fnOf "__init__" "Kind.__init__" (defArgs sKindI) (defBody sKindI) (defScope sKindI) .none kViK dciK pmiK aniK cdiK ctiK), sliK⟩)
    (ciK : PySem.W.codeIn K cdiK "Kind.__init__" = true)
    (kiK : PySem.W.keepIn K (.ref fiK) = true)
    (gY : PySem.W.nsIn K mainGlobals "Yard" = some (some (.ref CY)))
    (pgY : PySem.W.plainGet K CY Str.empty = true)
    (hdY : PySem.W.hasDictIn K CY = true)
    (poY : PySem.W.plainOver K CY = true)
    (saY : PySem.W.findIn K (.ref CY) "__setattr__" = some (some (.builtin "object.__setattr__")))
    (mkY : PySem.W.makesIn K CY = true)
    (kcY : PySem.W.keepIn K (.ref CY) = true)
    (nyP : PySem.W.findIn K (.ref CY) "parts" = some none)
    (nyK : PySem.W.findIn K (.ref CY) "kinds" = some none)
    (nyO : PySem.W.findIn K (.ref CY) "ordered" = some none)
    (aiY : PySem.W.findIn K (.ref CY) "__init__" = some (some (.ref fiY)))
    (iiY : PySem.W.isFn K (.ref fiY) = true)
    (liY : K.lookup fiY = some ⟨ociY, odiY, .func (PySem.W.fnOf "__init__" "Yard.__init__" (defArgs sYardI) (defBody sYardI) (defScope sYardI) .none kViY dciY pmiY aniY cdiY ctiY), sliY⟩)
    (ciY : PySem.W.codeIn K cdiY "Yard.__init__" = true)
    (kiY : PySem.W.keepIn K (.ref fiY) = true)
    (gL : PySem.W.nsIn K mainGlobals "Log" = some (some (.ref CL)))
    (pgL : PySem.W.plainGet K CL Str.empty = true)
    (hdL : PySem.W.hasDictIn K CL = true)
    (poL : PySem.W.plainOver K CL = true)
    (saL : PySem.W.findIn K (.ref CL) "__setattr__" = some (some (.builtin "object.__setattr__")))
    (mkL : PySem.W.makesIn K CL = true)
    (kcL : PySem.W.keepIn K (.ref CL) = true)
    (nlP : PySem.W.findIn K (.ref CL) "place" = some none)
    (nlE : PySem.W.findIn K (.ref CL) "end" = some none)
    (nlN : PySem.W.findIn K (.ref CL) "number" = some none)
    (nlW : PySem.W.findIn K (.ref CL) "worth" = some none)
    (aiL : PySem.W.findIn K (.ref CL) "__init__" = some (some (.ref fiL)))
    (iiL : PySem.W.isFn K (.ref fiL) = true)
    (liL : K.lookup fiL = some ⟨ociL, odiL, .func (PySem.W.fnOf "__init__" "Log.__init__" (defArgs sLogI) (defBody sLogI) (defScope sLogI) .none kViL dciL pmiL aniL cdiL ctiL), sliL⟩)
    (ciL : PySem.W.codeIn K cdiL "Log.__init__" = true)
    (kiL : PySem.W.keepIn K (.ref fiL) = true)
    (gO : PySem.W.nsIn K mainGlobals "Outlook" = some (some (.ref CO)))
    (pgO : PySem.W.plainGet K CO Str.empty = true)
    (hdO : PySem.W.hasDictIn K CO = true)
    (poO : PySem.W.plainOver K CO = true)
    (saO : PySem.W.findIn K (.ref CO) "__setattr__" = some (some (.builtin "object.__setattr__")))
    (mkO : PySem.W.makesIn K CO = true)
    (kcO : PySem.W.keepIn K (.ref CO) = true)
    (noW : PySem.W.findIn K (.ref CO) "worth" = some none)
    (noM : PySem.W.findIn K (.ref CO) "ways" = some none)
    (noL : PySem.W.findIn K (.ref CO) "log" = some none)
    (aiO : PySem.W.findIn K (.ref CO) "__init__" = some (some (.ref fiO)))
    (iiO : PySem.W.isFn K (.ref fiO) = true)
    (liO : K.lookup fiO = some ⟨ociO, odiO, .func (PySem.W.fnOf "__init__" "Outlook.__init__" (defArgs sOutI) (defBody sOutI) (defScope sOutI) .none kViO dciO pmiO aniO cdiO ctiO), sliO⟩)
    (ciO : PySem.W.codeIn K cdiO "Outlook.__init__" = true)
    (kiO : PySem.W.keepIn K (.ref fiO) = true)
    (nPY : CP ≠ CY)
    (nKY : CK ≠ CY)
    (af0 : PySem.W.nsIn K mainGlobals "is_stem" = some (some (.ref ff0)))
    (lf0 : K.lookup ff0 = some ⟨ocf0, odf0, .func (PySem.W.fnOf "is_stem" "is_stem" (defArgs sIsStem) (defBody sIsStem) (defScope sIsStem) .none kVf0 dcf0 pmf0 anf0 cdf0 ctf0), slf0⟩)
    (cf0 : PySem.W.codeIn K cdf0 "is_stem" = true)
    (kf0 : PySem.W.keepIn K (.ref ff0) = true)
    (af1 : PySem.W.nsIn K mainGlobals "set_stem" = some (some (.ref ff1)))
    (lf1 : K.lookup ff1 = some ⟨ocf1, odf1, .func (PySem.W.fnOf "set_stem" "set_stem" (defArgs sSetStem) (defBody sSetStem) (defScope sSetStem) .none kVf1 dcf1 pmf1 anf1 cdf1 ctf1), slf1⟩)
    (cf1 : PySem.W.codeIn K cdf1 "set_stem" = true)
    (kf1 : PySem.W.keepIn K (.ref ff1) = true)
    (af2 : PySem.W.nsIn K mainGlobals "is_kind" = some (some (.ref ff2)))
    (lf2 : K.lookup ff2 = some ⟨ocf2, odf2, .func (PySem.W.fnOf "is_kind" "is_kind" (defArgs sIsKind) (defBody sIsKind) (defScope sIsKind) .none kVf2 dcf2 pmf2 anf2 cdf2 ctf2), slf2⟩)
    (cf2 : PySem.W.codeIn K cdf2 "is_kind" = true)
    (kf2 : PySem.W.keepIn K (.ref ff2) = true)
    (af3 : PySem.W.nsIn K mainGlobals "add_kind" = some (some (.ref ff3)))
    (lf3 : K.lookup ff3 = some ⟨ocf3, odf3, .func (PySem.W.fnOf "add_kind" "add_kind" (defArgs sAddKind) (defBody sAddKind) (defScope sAddKind) .none kVf3 dcf3 pmf3 anf3 cdf3 ctf3), slf3⟩)
    (cf3 : PySem.W.codeIn K cdf3 "add_kind" = true)
    (kf3 : PySem.W.keepIn K (.ref ff3) = true)
    (af4 : PySem.W.nsIn K mainGlobals "change_order" = some (some (.ref ff4)))
    (lf4 : K.lookup ff4 = some ⟨ocf4, odf4, .func (PySem.W.fnOf "change_order" "change_order" (defArgs sOrder) (defBody sOrder) (defScope sOrder) .none kVf4 dcf4 pmf4 anf4 cdf4 ctf4), slf4⟩)
    (cf4 : PySem.W.codeIn K cdf4 "change_order" = true)
    (kf4 : PySem.W.keepIn K (.ref ff4) = true)
    (af5 : PySem.W.nsIn K mainGlobals "may_be_cut" = some (some (.ref ff5)))
    (lf5 : K.lookup ff5 = some ⟨ocf5, odf5, .func (PySem.W.fnOf "may_be_cut" "may_be_cut" (defArgs sMayCut) (defBody sMayCut) (defScope sMayCut) .none kVf5 dcf5 pmf5 anf5 cdf5 ctf5), slf5⟩)
    (cf5 : PySem.W.codeIn K cdf5 "may_be_cut" = true)
    (kf5 : PySem.W.keepIn K (.ref ff5) = true)
    (af6 : PySem.W.nsIn K mainGlobals "cut_log" = some (some (.ref ff6)))
    (lf6 : K.lookup ff6 = some ⟨ocf6, odf6, .func (PySem.W.fnOf "cut_log" "cut_log" (defArgs sCutLog) (defBody sCutLog) (defScope sCutLog) .none kVf6 dcf6 pmf6 anf6 cdf6 ctf6), slf6⟩)
    (cf6 : PySem.W.codeIn K cdf6 "cut_log" = true)
    (kf6 : PySem.W.keepIn K (.ref ff6) = true)
    (af7 : PySem.W.nsIn K mainGlobals "count_waste" = some (some (.ref ff7)))
    (lf7 : K.lookup ff7 = some ⟨ocf7, odf7, .func (PySem.W.fnOf "count_waste" "count_waste" (defArgs sWaste) (defBody sWaste) (defScope sWaste) .none kVf7 dcf7 pmf7 anf7 cdf7 ctf7), slf7⟩)
    (cf7 : PySem.W.codeIn K cdf7 "count_waste" = true)
    (kf7 : PySem.W.keepIn K (.ref ff7) = true)
    (af8 : PySem.W.nsIn K mainGlobals "logs_from" = some (some (.ref ff8)))
    (lf8 : K.lookup ff8 = some ⟨ocf8, odf8, .func (PySem.W.fnOf "logs_from" "logs_from" (defArgs sLogsFrom) (defBody sLogsFrom) (defScope sLogsFrom) .none kVf8 dcf8 pmf8 anf8 cdf8 ctf8), slf8⟩)
    (cf8 : PySem.W.codeIn K cdf8 "logs_from" = true)
    (kf8 : PySem.W.keepIn K (.ref ff8) = true)
    (af9 : PySem.W.nsIn K mainGlobals "stock_steps" = some (some (.ref ff9)))
    (lf9 : K.lookup ff9 = some ⟨ocf9, odf9, .func (PySem.W.fnOf "stock_steps" "stock_steps" (defArgs sSteps) (defBody sSteps) (defScope sSteps) .none kVf9 dcf9 pmf9 anf9 cdf9 ctf9), slf9⟩)
    (cf9 : PySem.W.codeIn K cdf9 "stock_steps" = true)
    (kf9 : PySem.W.keepIn K (.ref ff9) = true)
    (af10 : PySem.W.nsIn K mainGlobals "in_stock" = some (some (.ref ff10)))
    (lf10 : K.lookup ff10 = some ⟨ocf10, odf10, .func (PySem.W.fnOf "in_stock" "in_stock" (defArgs sInStock) (defBody sInStock) (defScope sInStock) .none kVf10 dcf10 pmf10 anf10 cdf10 ctf10), slf10⟩)
    (cf10 : PySem.W.codeIn K cdf10 "in_stock" = true)
    (kf10 : PySem.W.keepIn K (.ref ff10) = true)
    (af11 : PySem.W.nsIn K mainGlobals "outlook_at" = some (some (.ref ff11)))
    (lf11 : K.lookup ff11 = some ⟨ocf11, odf11, .func (PySem.W.fnOf "outlook_at" "outlook_at" (defArgs sOutAt) (defBody sOutAt) (defScope sOutAt) .none kVf11 dcf11 pmf11 anf11 cdf11 ctf11), slf11⟩)
    (cf11 : PySem.W.codeIn K cdf11 "outlook_at" = true)
    (kf11 : PySem.W.keepIn K (.ref ff11) = true)
    (af12 : PySem.W.nsIn K mainGlobals "all_outlooks" = some (some (.ref ff12)))
    (lf12 : K.lookup ff12 = some ⟨ocf12, odf12, .func (PySem.W.fnOf "all_outlooks" "all_outlooks" (defArgs sAllOut) (defBody sAllOut) (defScope sAllOut) .none kVf12 dcf12 pmf12 anf12 cdf12 ctf12), slf12⟩)
    (cf12 : PySem.W.codeIn K cdf12 "all_outlooks" = true)
    (kf12 : PySem.W.keepIn K (.ref ff12) = true)
    (af13 : PySem.W.nsIn K mainGlobals "earliest_logs" = some (some (.ref ff13)))
    (lf13 : K.lookup ff13 = some ⟨ocf13, odf13, .func (PySem.W.fnOf "earliest_logs" "earliest_logs" (defArgs sEarly) (defBody sEarly) (defScope sEarly) .none kVf13 dcf13 pmf13 anf13 cdf13 ctf13), slf13⟩)
    (cf13 : PySem.W.codeIn K cdf13 "earliest_logs" = true)
    (kf13 : PySem.W.keepIn K (.ref ff13) = true)
    (af14 : PySem.W.nsIn K mainGlobals "find_best" = some (some (.ref ff14)))
    (lf14 : K.lookup ff14 = some ⟨ocf14, odf14, .func (PySem.W.fnOf "find_best" "find_best" (defArgs sBest) (defBody sBest) (defScope sBest) .none kVf14 dcf14 pmf14 anf14 cdf14 ctf14), slf14⟩)
    (cf14 : PySem.W.codeIn K cdf14 "find_best" = true)
    (kf14 : PySem.W.keepIn K (.ref ff14) = true)
    (af15 : PySem.W.nsIn K mainGlobals "cutting_of" = some (some (.ref ff15)))
    (lf15 : K.lookup ff15 = some ⟨ocf15, odf15, .func (PySem.W.fnOf "cutting_of" "cutting_of" (defArgs sCutting) (defBody sCutting) (defScope sCutting) .none kVf15 dcf15 pmf15 anf15 cdf15 ctf15), slf15⟩)
    (cf15 : PySem.W.codeIn K cdf15 "cutting_of" = true)
    (kf15 : PySem.W.keepIn K (.ref ff15) = true)
    (af16 : PySem.W.nsIn K mainGlobals "check_logs" = some (some (.ref ff16)))
    (lf16 : K.lookup ff16 = some ⟨ocf16, odf16, .func (PySem.W.fnOf "check_logs" "check_logs" (defArgs sCheck) (defBody sCheck) (defScope sCheck) .none kVf16 dcf16 pmf16 anf16 cdf16 ctf16), slf16⟩)
    (cf16 : PySem.W.codeIn K cdf16 "check_logs" = true)
    (kf16 : PySem.W.keepIn K (.ref ff16) = true)
    (af17 : PySem.W.nsIn K mainGlobals "find_more" = some (some (.ref ff17)))
    (lf17 : K.lookup ff17 = some ⟨ocf17, odf17, .func (PySem.W.fnOf "find_more" "find_more" (defArgs sMore) (defBody sMore) (defScope sMore) .none kVf17 dcf17 pmf17 anf17 cdf17 ctf17), slf17⟩)
    (cf17 : PySem.W.codeIn K cdf17 "find_more" = true)
    (kf17 : PySem.W.keepIn K (.ref ff17) = true)
    (af18 : PySem.W.nsIn K mainGlobals "list_places" = some (some (.ref ff18)))
    (lf18 : K.lookup ff18 = some ⟨ocf18, odf18, .func (PySem.W.fnOf "list_places" "list_places" (defArgs sPlaces) (defBody sPlaces) (defScope sPlaces) .none kVf18 dcf18 pmf18 anf18 cdf18 ctf18), slf18⟩)
    (cf18 : PySem.W.codeIn K cdf18 "list_places" = true)
    (kf18 : PySem.W.keepIn K (.ref ff18) = true)
    (af19 : PySem.W.nsIn K mainGlobals "answer_call" = some (some (.ref ff19)))
    (lf19 : K.lookup ff19 = some ⟨ocf19, odf19, .func (PySem.W.fnOf "answer_call" "answer_call" (defArgs sCall) (defBody sCall) (defScope sCall) .none kVf19 dcf19 pmf19 anf19 cdf19 ctf19), slf19⟩)
    (cf19 : PySem.W.codeIn K cdf19 "answer_call" = true)
    (kf19 : PySem.W.keepIn K (.ref ff19) = true)
    (af20 : PySem.W.nsIn K mainGlobals "answers" = some (some (.ref ff20)))
    (lf20 : K.lookup ff20 = some ⟨ocf20, odf20, .func (PySem.W.fnOf "answers" "answers" (defArgs sAnswers) (defBody sAnswers) (defScope sAnswers) .none kVf20 dcf20 pmf20 anf20 cdf20 ctf20), slf20⟩)
    (cf20 : PySem.W.codeIn K cdf20 "answers" = true)
    (kf20 : PySem.W.keepIn K (.ref ff20) = true)
    (vcStem : PySem.W.nsIn K mainGlobals "CALL_STEM" = some (some (.int 0 tcStem)))
    (vcKind : PySem.W.nsIn K mainGlobals "CALL_KIND" = some (some (.int 1 tcKind)))
    (vcOrder : PySem.W.nsIn K mainGlobals "CALL_ORDER" = some (some (.int 2 tcOrder)))
    (vcBest : PySem.W.nsIn K mainGlobals "CALL_BEST" = some (some (.int 3 tcBest)))
    (vcCheck : PySem.W.nsIn K mainGlobals "CALL_CHECK" = some (some (.int 4 tcCheck)))
    (vcMore : PySem.W.nsIn K mainGlobals "CALL_MORE" = some (some (.int 5 tcMore)))
    (vcTold : PySem.W.nsIn K mainGlobals "NOT_AS_TOLD" = some (some (.int (-1) tcTold)))
    (vcNoKind : PySem.W.nsIn K mainGlobals "NO_SUCH_KIND" = some (some (.int (-2) tcNoKind)))
    (vcNoMore : PySem.W.nsIn K mainGlobals "NO_MORE_KINDS" = some (some (.int (-5) tcNoMore)))
    (vcNoCut : PySem.W.nsIn K mainGlobals "NO_CUTTING" = some (some (.int (-6) tcNoCut)))
    (vcParts : PySem.W.nsIn K mainGlobals "MOST_PARTS" = some (some (.int 40 tcParts)))
    (vcThick : PySem.W.nsIn K mainGlobals "MOST_THICKNESS" = some (some (.int 100 tcThick)))
    (vcGrade : PySem.W.nsIn K mainGlobals "WORST_GRADE" = some (some (.int 9 tcGrade)))
    (vcKinds : PySem.W.nsIn K mainGlobals "MOST_KINDS" = some (some (.int 3 tcKinds)))
    (vcMost : PySem.W.nsIn K mainGlobals "MOST_ORDERED" = some (some (.int 4 tcMost)))
    (vcRow : PySem.W.nsIn K mainGlobals "CALLS_WITH_A_ROW" = some (some (.ref Arw)))
    (vtRow : K.lookup Arw = some ⟨.type "tuple", odrw, .seq #[.int 0 trw0, .int 4 trw1] nrw, slrw⟩)
    (vcLeast : PySem.W.nsIn K mainGlobals "LEAST_OF_KIND" = some (some (.ref Alo)))
    (vtLeast : K.lookup Alo = some ⟨.type "tuple", odlo, .seq #[.int 1 tlo0, .int 0 tlo1, .int 0 tlo2, .int 0 tlo3, .int 0 tlo4] nlo, sllo⟩)
    (vcLargest : PySem.W.nsIn K mainGlobals "MOST_OF_KIND" = some (some (.ref Ahi)))
    (vtLargest : K.lookup Ahi = some ⟨.type "tuple", odhi, .seq #[.int 40 thi0, .int 100 thi1, .int 9 thi2, .int 1000 thi3, .int 4 thi4] nhi, slhi⟩)
    (vcWhole : PySem.W.nsIn K mainGlobals "WHOLE_NUMBERS" = some (some (.ref Awn)))
    (vdWhole : K.lookup Awn = some ⟨.type "dict", none, .dict eswn nwn, #[]⟩)
    (wdWhole : intDict eswn = true)
    (wwn1 : findBy Value.isInt eswn 1 = some (.int 5 twn1))
    (wwn2 : findBy Value.isInt eswn 2 = some (.int 2 twn2))
    (wwn3 : findBy Value.isInt eswn 3 = some (.int 0 twn3))
    (wwn5 : findBy Value.isInt eswn 5 = some (.int 1 twn5))
    (wwn6 : findBy Value.isInt eswn 6 = some (.int 0 twn6))
    (blen : PySem.W.nsIn K mainGlobals "len" = some none)
    (brange : PySem.W.nsIn K mainGlobals "range" = some none)
    (bzip : PySem.W.nsIn K mainGlobals "zip" = some none)
    (ball : PySem.W.nsIn K mainGlobals "all" = some none)
    (bsum : PySem.W.nsIn K mainGlobals "sum" = some none)
    (blist : PySem.W.nsIn K mainGlobals "list" = some none)
    : ∃ c, Top K mg c := by
  refine ⟨⟨CP, CK, CY, CL, CO, Arw, Alo, Ahi, Awn⟩, ⟨?_, ini_of mkP kcP aiP iiP liP ciP kiP, ini_of mkK kcK aiK iiK liK ciK kiK, ini_of mkY kcY aiY iiY liY ciY kiY, ini_of mkL kcL aiL iiL liL ciL kiL, ini_of mkO kcO aiO iiO liO ciO kiO, fn_of X G af0 lf0 cf0 kf0, fn_of X G af1 lf1 cf1 kf1, fn_of X G af2 lf2 cf2 kf2, fn_of X G af3 lf3 cf3 kf3, fn_of X G af4 lf4 cf4 kf4, fn_of X G af5 lf5 cf5 kf5, fn_of X G af6 lf6 cf6 kf6, fn_of X G af7 lf7 cf7 kf7, fn_of X G af8 lf8 cf8 kf8, fn_of X G af9 lf9 cf9 kf9, fn_of X G af10 lf10 cf10 kf10, fn_of X G af11 lf11 cf11 kf11, fn_of X G af12 lf12 cf12 kf12, fn_of X G af13 lf13 cf13 kf13, fn_of X G af14 lf14 cf14 kf14, fn_of X G af15 lf15 cf15 kf15, fn_of X G af16 lf16 cf16 kf16, fn_of X G af17 lf17 cf17 kf17, fn_of X G af18 lf18 cf18 kf18, fn_of X G af19 lf19 cf19 kf19, fn_of X G af20 lf20 cf20 kf20⟩⟩
  exact { clP := ⟨pgP, hdP, poP, saP⟩, pT := npT, pG := npG, gP := PySem.W.mg_of X G gP, clK := ⟨pgK, hdK, poK, saK⟩, kL := nkL, kT := nkT, kG := nkG, kP := nkP, gK := PySem.W.mg_of X G gK, clY := ⟨pgY, hdY, poY, saY⟩, yP := nyP, yK := nyK, yO := nyO, gY := PySem.W.mg_of X G gY, clL := ⟨pgL, hdL, poL, saL⟩, lP := nlP, lE := nlE, lN := nlN, lW := nlW, gL := PySem.W.mg_of X G gL, clO := ⟨pgO, hdO, poO, saO⟩, oW := noW, oM := noM, oL := noL, gO := PySem.W.mg_of X G gO, pY := nPY, kY := nKY, len := PySem.W.mg_none_of X G blen, range := PySem.W.mg_none_of X G brange, zip := PySem.W.mg_none_of X G bzip, all := PySem.W.mg_none_of X G ball, sum := PySem.W.mg_none_of X G bsum, list := PySem.W.mg_none_of X G blist, cStem := cst_int X G vcStem, cKind := cst_int X G vcKind, cOrder := cst_int X G vcOrder, cBest := cst_int X G vcBest, cCheck := cst_int X G vcCheck, cMore := cst_int X G vcMore, cTold := cst_int X G vcTold, cNoKind := cst_int X G vcNoKind, cNoMore := cst_int X G vcNoMore, cNoCut := cst_int X G vcNoCut, cParts := cst_int X G vcParts, cThick := cst_int X G vcThick, cGrade := cst_int X G vcGrade, cKinds := cst_int X G vcKinds, cMost := cst_int X G vcMost, cRow := cst_ref X G vcRow, tRow := fun H => .inr ⟨_, _, _, vtRow, rfl, rfl, (by show 2 ≤ sizeLine; decide), .cons ⟨_, rfl⟩ (.cons ⟨_, rfl⟩ (.nil))⟩, cLeast := cst_ref X G vcLeast, tLeast := fun H => .inr ⟨_, _, _, vtLeast, rfl, rfl, (by show 5 ≤ sizeLine; decide), .cons ⟨_, rfl⟩ (.cons ⟨_, rfl⟩ (.cons ⟨_, rfl⟩ (.cons ⟨_, rfl⟩ (.cons ⟨_, rfl⟩ (.nil)))))⟩, cLargest := cst_ref X G vcLargest, tLargest := fun H => .inr ⟨_, _, _, vtLargest, rfl, rfl, (by show 5 ≤ sizeLine; decide), .cons ⟨_, rfl⟩ (.cons ⟨_, rfl⟩ (.cons ⟨_, rfl⟩ (.cons ⟨_, rfl⟩ (.cons ⟨_, rfl⟩ (.nil)))))⟩, cWhole := cst_ref X G vcWhole, dWhole1 := ⟨_, _, _, vdWhole, intDict_keys wdWhole, wwn1, _, rfl⟩, dWhole2 := ⟨_, _, _, vdWhole, intDict_keys wdWhole, wwn2, _, rfl⟩, dWhole3 := ⟨_, _, _, vdWhole, intDict_keys wdWhole, wwn3, _, rfl⟩, dWhole5 := ⟨_, _, _, vdWhole, intDict_keys wdWhole, wwn5, _, rfl⟩, dWhole6 := ⟨_, _, _, vdWhole, intDict_keys wdWhole, wwn6, _, rfl⟩ }
theorem cal_of {P : Program} {w : World} {K : PySem.W.Frag} {mg : Str → Option Value} {base : Heap} {x : Str} {st : Stmt} {k : Nat} {ps : List Str} {sp : Sp} (h : FnT K mg x st) (hb : ∀ f fd, Fun K x x st f fd → Binds K fd ps []) (ok : ∀ f fd, Fun K x x st f fd → FnOk P w K mg base CX0 k f fd ps sp) : Cal P w K mg base k x ps sp := by
  obtain ⟨f, fd, h1, h2, F⟩ := h
  exact ⟨f, fd, h1, h2, hb f fd F, ok f fd F⟩
theorem mkr_of {P : Program} {w : World} {K : PySem.W.Frag} {mg : Str → Option Value} {base : Heap} {x qual : Str} {C : Addr} {st : Stmt} {ps : List Str} {sp : Sp} (g : mg x = some (.ref C)) (h : IniT K C qual st) (hb : ∀ f fd, Fun K "__init__" qual st f fd → Binds K fd ps []) (ok : ∀ f fd, Fun K "__init__" qual st f fd → FnOk P w K mg base CX0 1 f fd ps sp) : Mkr P w K mg base x C ps sp := by
  obtain ⟨f, fd, h1, F⟩ := h
  exact ⟨f, fd, g, h1, hb f fd F, ok f fd F⟩
theorem f_end {P : Program} {w : World} {K : PySem.W.Frag} {mg : Str → Option Value} {fa : Addr} {c : Cs} (T : Top K mg c) (hfa : mg "answers" = some (.ref fa)) :
    ∃ fd : FuncData, (∀ (s : Shared) (us : List Value), us.length = (["calls"] : List Str).length → BindsTo s fd ⟨us, []⟩ ((["calls"] : List Str).zip us)) ∧ ∀ base : Heap, K.In base → base.Ns mainGlobals mg → FnOk P w K mg base CX0 8 fa fd ["calls"] (spAnswers K) := by
  have X := T.txt
  obtain ⟨f, fd, h1, h2, F⟩ := T.fAnswers
  rw [hfa] at h1
  cases h1
  obtain ⟨⟨oc, od, kV, doc, pm, an, cdv, ct, osl, efd, hl, hcd⟩, hk⟩ := id F
  refine ⟨fd, fun s us hu => ?_, fun base _ _ => ?_⟩
  · rw [efd]
    exact match us, hu with | [_], _ => .of_eq rfl
  have mP : Mkr P w K mg base "Part" c.P ["self", "thickness", "grade"] _ := mkr_of X.gP T.iP (fun f fd F => F.binds (ps := ["self", "thickness", "grade"]) fun _ _ _ _ _ _ us hl => match us, hl with | [_, _, _], _ => rfl) fun f fd F => ok_partI F X
  have mK : Mkr P w K mg base "Kind" c.K ["self", "length", "thickness", "grade", "price"] _ := mkr_of X.gK T.iK (fun f fd F => F.binds (ps := ["self", "length", "thickness", "grade", "price"]) fun _ _ _ _ _ _ us hl => match us, hl with | [_, _, _, _, _], _ => rfl) fun f fd F => ok_kindI F X
  have mY : Mkr P w K mg base "Yard" c.Y ["self"] _ := mkr_of X.gY T.iY (fun f fd F => F.binds (ps := ["self"]) fun _ _ _ _ _ _ us hl => match us, hl with | [_], _ => rfl) fun f fd F => ok_yardI F X
  have mL : Mkr P w K mg base "Log" c.L ["self", "place", "end", "number", "worth"] _ := mkr_of X.gL T.iL (fun f fd F => F.binds (ps := ["self", "place", "end", "number", "worth"]) fun _ _ _ _ _ _ us hl => match us, hl with | [_, _, _, _, _], _ => rfl) fun f fd F => ok_logI F X
  have mO : Mkr P w K mg base "Outlook" c.O ["self", "worth", "ways", "log"] _ := mkr_of X.gO T.iO (fun f fd F => F.binds (ps := ["self", "worth", "ways", "log"]) fun _ _ _ _ _ _ us hl => match us, hl with | [_, _, _, _], _ => rfl) fun f fd F => ok_outI F X
  have gIsStem : Cal P w K mg base 1 "is_stem" ["parts"] _ := cal_of T.fIsStem (fun f fd F => F.binds (ps := ["parts"]) fun _ _ _ _ _ _ us hl => match us, hl with | [_], _ => rfl) fun f fd F => ok_isStem F X
  have gSetStem : Cal P w K mg base 3 "set_stem" ["yard", "numbers"] _ := cal_of T.fSetStem (fun f fd F => F.binds (ps := ["yard", "numbers"]) fun _ _ _ _ _ _ us hl => match us, hl with | [_, _], _ => rfl) fun f fd F => ok_setStem F X gIsStem mP
  have gIsKind : Cal P w K mg base 1 "is_kind" ["numbers"] _ := cal_of T.fIsKind (fun f fd F => F.binds (ps := ["numbers"]) fun _ _ _ _ _ _ us hl => match us, hl with | [_], _ => rfl) fun f fd F => ok_isKind F X
  have gAddKind : Cal P w K mg base 3 "add_kind" ["yard", "numbers"] _ := cal_of T.fAddKind (fun f fd F => F.binds (ps := ["yard", "numbers"]) fun _ _ _ _ _ _ us hl => match us, hl with | [_, _], _ => rfl) fun f fd F => ok_addKind F X gIsKind mK
  have gOrder : Cal P w K mg base 1 "change_order" ["yard", "number", "many"] _ := cal_of T.fOrder (fun f fd F => F.binds (ps := ["yard", "number", "many"]) fun _ _ _ _ _ _ us hl => match us, hl with | [_, _, _], _ => rfl) fun f fd F => ok_order F X
  have gMayCut : Cal P w K mg base 1 "may_be_cut" ["parts", "kind", "place"] _ := cal_of T.fMayCut (fun f fd F => F.binds (ps := ["parts", "kind", "place"]) fun _ _ _ _ _ _ us hl => match us, hl with | [_, _, _], _ => rfl) fun f fd F => ok_mayCut F X
  have gCutLog : Cal P w K mg base 3 "cut_log" ["parts", "kinds", "number", "place"] _ := cal_of T.fCutLog (fun f fd F => F.binds (ps := ["parts", "kinds", "number", "place"]) fun _ _ _ _ _ _ us hl => match us, hl with | [_, _, _, _], _ => rfl) fun f fd F => ok_cutLog F X mL
  have gWaste : Cal P w K mg base 1 "count_waste" ["parts", "logs"] _ := cal_of T.fWaste (fun f fd F => F.binds (ps := ["parts", "logs"]) fun _ _ _ _ _ _ us hl => match us, hl with | [_, _], _ => rfl) fun f fd F => ok_waste F X
  have gLogsFrom : Cal P w K mg base 4 "logs_from" ["parts", "kinds", "place"] _ := cal_of T.fLogsFrom (fun f fd F => F.binds (ps := ["parts", "kinds", "place"]) fun _ _ _ _ _ _ us hl => match us, hl with | [_, _, _], _ => rfl) fun f fd F => ok_logsFrom F X gMayCut gCutLog
  have gSteps : Cal P w K mg base 1 "stock_steps" ["ordered"] _ := cal_of T.fSteps (fun f fd F => F.binds (ps := ["ordered"]) fun _ _ _ _ _ _ us hl => match us, hl with | [_], _ => rfl) fun f fd F => ok_steps F
  have gInStock : Cal P w K mg base 1 "in_stock" ["stock", "steps", "number"] _ := cal_of T.fInStock (fun f fd F => F.binds (ps := ["stock", "steps", "number"]) fun _ _ _ _ _ _ us hl => match us, hl with | [_, _, _], _ => rfl) fun f fd F => ok_inStock F
  have gOutAt : Cal P w K mg base 3 "outlook_at" ["table", "steps", "place", "stock", "logs"] _ := cal_of T.fOutAt (fun f fd F => F.binds (ps := ["table", "steps", "place", "stock", "logs"]) fun _ _ _ _ _ _ us hl => match us, hl with | [_, _, _, _, _], _ => rfl) fun f fd F => ok_outAt F X gInStock mO
  have gAllOut : Cal P w K mg base 5 "all_outlooks" ["parts", "kinds", "steps"] _ := cal_of T.fAllOut (fun f fd F => F.binds (ps := ["parts", "kinds", "steps"]) fun _ _ _ _ _ _ us hl => match us, hl with | [_, _, _], _ => rfl) fun f fd F => ok_allOut F X gLogsFrom gOutAt mO
  have gEarly : Cal P w K mg base 1 "earliest_logs" ["table", "steps"] _ := cal_of T.fEarly (fun f fd F => F.binds (ps := ["table", "steps"]) fun _ _ _ _ _ _ us hl => match us, hl with | [_, _], _ => rfl) fun f fd F => ok_early F X
  have gBest : Cal P w K mg base 6 "find_best" ["yard"] _ := cal_of T.fBest (fun f fd F => F.binds (ps := ["yard"]) fun _ _ _ _ _ _ us hl => match us, hl with | [_], _ => rfl) fun f fd F => ok_best F X gSteps gAllOut gEarly gWaste
  have gCutting : Cal P w K mg base 4 "cutting_of" ["yard", "numbers"] _ := cal_of T.fCutting (fun f fd F => F.binds (ps := ["yard", "numbers"]) fun _ _ _ _ _ _ us hl => match us, hl with | [_, _], _ => rfl) fun f fd F => ok_cutting F X gMayCut gCutLog
  have gCheck : Cal P w K mg base 5 "check_logs" ["yard", "numbers"] _ := cal_of T.fCheck (fun f fd F => F.binds (ps := ["yard", "numbers"]) fun _ _ _ _ _ _ us hl => match us, hl with | [_, _], _ => rfl) fun f fd F => ok_check F X gCutting gWaste
  have gMore : Cal P w K mg base 6 "find_more" ["yard", "number"] _ := cal_of T.fMore (fun f fd F => F.binds (ps := ["yard", "number"]) fun _ _ _ _ _ _ us hl => match us, hl with | [_, _], _ => rfl) fun f fd F => ok_more F X gSteps gAllOut
  have gPlaces : Cal P w K mg base 2 "list_places" ["yard"] _ := cal_of T.fPlaces (fun f fd F => F.binds (ps := ["yard"]) fun _ _ _ _ _ _ us hl => match us, hl with | [_], _ => rfl) fun f fd F => ok_places F X gMayCut
  have gCall : Cal P w K mg base 7 "answer_call" ["yard", "call", "numbers"] _ := cal_of T.fCall (fun f fd F => F.binds (ps := ["yard", "call", "numbers"]) fun _ _ _ _ _ _ us hl => match us, hl with | [_, _, _], _ => rfl) fun f fd F => ok_call F X gSetStem gAddKind gOrder gBest gCheck gMore gPlaces
  exact ok_answers F X mY gCall

theorem f_case {P : Program} {w : World} {K : PySem.W.Frag} {h : Heap} {mg : Str → Option Value} {fa : Addr} (X : K.In h) (G : h.Ns mainGlobals mg) (hfa : mg "answers" = some (.ref fa))
    {CP : Addr}
    {fiP : Addr} {odiP aniP : Option Addr} {sliP : Array (Option Value)} {ociP kViP dciP pmiP cdiP ctiP : Value}
    {CK : Addr}
    {fiK : Addr} {odiK aniK : Option Addr} {sliK : Array (Option Value)} {ociK kViK dciK pmiK cdiK ctiK : Value}
    {CY : Addr}
    {fiY : Addr} {odiY aniY : Option Addr} {sliY : Array (Option Value)} {ociY kViY dciY pmiY cdiY ctiY : Value}
    {CL : Addr}
    {fiL : Addr} {odiL aniL : Option Addr} {sliL : Array (Option Value)} {ociL kViL dciL pmiL cdiL ctiL : Value}
    {CO : Addr}
    {fiO : Addr} {odiO aniO : Option Addr} {sliO : Array (Option Value)} {ociO kViO dciO pmiO cdiO ctiO : Value}
    {ff0 : Addr} {odf0 anf0 : Option Addr} {slf0 : Array (Option Value)} {ocf0 kVf0 dcf0 pmf0 cdf0 ctf0 : Value}
    {ff1 : Addr} {odf1 anf1 : Option Addr} {slf1 : Array (Option Value)} {ocf1 kVf1 dcf1 pmf1 cdf1 ctf1 : Value}
    {ff2 : Addr} {odf2 anf2 : Option Addr} {slf2 : Array (Option Value)} {ocf2 kVf2 dcf2 pmf2 cdf2 ctf2 : Value}
    {ff3 : Addr} {odf3 anf3 : Option Addr} {slf3 : Array (Option Value)} {ocf3 kVf3 dcf3 pmf3 cdf3 ctf3 : Value}
    {ff4 : Addr} {odf4 anf4 : Option Addr} {slf4 : Array (Option Value)} {ocf4 kVf4 dcf4 pmf4 cdf4 ctf4 : Value}
    {ff5 : Addr} {odf5 anf5 : Option Addr} {slf5 : Array (Option Value)} {ocf5 kVf5 dcf5 pmf5 cdf5 ctf5 : Value}
    {ff6 : Addr} {odf6 anf6 : Option Addr} {slf6 : Array (Option Value)} {ocf6 kVf6 dcf6 pmf6 cdf6 ctf6 : Value}
    {ff7 : Addr} {odf7 anf7 : Option Addr} {slf7 : Array (Option Value)} {ocf7 kVf7 dcf7 pmf7 cdf7 ctf7 : Value}
    {ff8 : Addr} {odf8 anf8 : Option Addr} {slf8 : Array (Option Value)} {ocf8 kVf8 dcf8 pmf8 cdf8 ctf8 : Value}
    {ff9 : Addr} {odf9 anf9 : Option Addr} {slf9 : Array (Option Value)} {ocf9 kVf9 dcf9 pmf9 cdf9 ctf9 : Value}
    {ff10 : Addr} {odf10 anf10 : Option Addr} {slf10 : Array (Option Value)} {ocf10 kVf10 dcf10 pmf10 cdf10 ctf10 : Value}
    {ff11 : Addr} {odf11 anf11 : Option Addr} {slf11 : Array (Option Value)} {ocf11 kVf11 dcf11 pmf11 cdf11 ctf11 : Value}
    {ff12 : Addr} {odf12 anf12 : Option Addr} {slf12 : Array (Option Value)} {ocf12 kVf12 dcf12 pmf12 cdf12 ctf12 : Value}
    {ff13 : Addr} {odf13 anf13 : Option Addr} {slf13 : Array (Option Value)} {ocf13 kVf13 dcf13 pmf13 cdf13 ctf13 : Value}
    {ff14 : Addr} {odf14 anf14 : Option Addr} {slf14 : Array (Option Value)} {ocf14 kVf14 dcf14 pmf14 cdf14 ctf14 : Value}
    {ff15 : Addr} {odf15 anf15 : Option Addr} {slf15 : Array (Option Value)} {ocf15 kVf15 dcf15 pmf15 cdf15 ctf15 : Value}
    {ff16 : Addr} {odf16 anf16 : Option Addr} {slf16 : Array (Option Value)} {ocf16 kVf16 dcf16 pmf16 cdf16 ctf16 : Value}
    {ff17 : Addr} {odf17 anf17 : Option Addr} {slf17 : Array (Option Value)} {ocf17 kVf17 dcf17 pmf17 cdf17 ctf17 : Value}
    {ff18 : Addr} {odf18 anf18 : Option Addr} {slf18 : Array (Option Value)} {ocf18 kVf18 dcf18 pmf18 cdf18 ctf18 : Value}
    {ff19 : Addr} {odf19 anf19 : Option Addr} {slf19 : Array (Option Value)} {ocf19 kVf19 dcf19 pmf19 cdf19 ctf19 : Value}
    {ff20 : Addr} {odf20 anf20 : Option Addr} {slf20 : Array (Option Value)} {ocf20 kVf20 dcf20 pmf20 cdf20 ctf20 : Value}
    {tcStem : Tok}
    {tcKind : Tok}
    {tcOrder : Tok}
    {tcBest : Tok}
    {tcCheck : Tok}
    {tcMore : Tok}
    {tcTold : Tok}
    {tcNoKind : Tok}
    {tcNoMore : Tok}
    {tcNoCut : Tok}
    {tcParts : Tok}
    {tcThick : Tok}
    {tcGrade : Tok}
    {tcKinds : Tok}
    {tcMost : Tok}
    {Arw : Addr} {odrw : Option Addr} {nrw : Nat} {slrw : Array (Option Value)} {trw0 trw1 : Tok}
    {Alo : Addr} {odlo : Option Addr} {nlo : Nat} {sllo : Array (Option Value)} {tlo0 tlo1 tlo2 tlo3 tlo4 : Tok}
    {Ahi : Addr} {odhi : Option Addr} {nhi : Nat} {slhi : Array (Option Value)} {thi0 thi1 thi2 thi3 thi4 : Tok}
    {Awn : Addr} {eswn : Array DictEntry} {nwn : Nat}
    {twn1 : Tok}
    {twn2 : Tok}
    {twn3 : Tok}
    {twn5 : Tok}
    {twn6 : Tok}
    (gP : PySem.W.nsIn K mainGlobals "Part" = some (some (.ref CP)))
    (pgP : PySem.W.plainGet K CP Str.empty = true)
    (hdP : PySem.W.hasDictIn K CP = true)
    (poP : PySem.W.plainOver K CP = true)
    (saP : PySem.W.findIn K (.ref CP) "__setattr__" = some (some (.builtin "object.__setattr__")))
    (mkP : PySem.W.makesIn K CP = true)
    (kcP : PySem.W.keepIn K (.ref CP) = true)
    (npT : PySem.W.findIn K (.ref CP) "thickness" = some none)
    (npG : PySem.W.findIn K (.ref CP) "grade" = some none)
    (aiP : PySem.W.findIn K (.ref CP) "__init__" = some (some (.ref fiP)))
    (iiP : PySem.W.isFn K (.ref fiP) = true)
    (liP : K.lookup fiP = some ⟨ociP, odiP, .func (PySem.W.fnOf "__init__" "Part.__init__" (defArgs sPartI) (defBody sPartI) (defScope sPartI) .none kViP dciP pmiP aniP cdiP ctiP), sliP⟩)
    (ciP : PySem.W.codeIn K cdiP "Part.__init__" = true)
    (kiP : PySem.W.keepIn K (.ref fiP) = true)
    (gK : PySem.W.nsIn K mainGlobals "Kind" = some (some (.ref CK)))
    (pgK : PySem.W.plainGet K CK Str.empty = true)
    (hdK : PySem.W.hasDictIn K CK = true)
    (poK : PySem.W.plainOver K CK = true)
    (saK : PySem.W.findIn K (.ref CK) "__setattr__" = some (some (.builtin "object.__setattr__")))
    (mkK : PySem.W.makesIn K CK = true)
    (kcK : PySem.W.keepIn K (.ref CK) = true)
    (nkL : PySem.W.findIn K (.ref CK) "length" = some none)
    (nkT : PySem.W.findIn K (.ref CK) "thickness" = some none)
    (nkG : PySem.W.findIn K (.ref CK) "grade" = some none)
    (nkP : PySem.W.findIn K (.ref CK) "price" = some none)
    (aiK : PySem.W.findIn K (.ref CK) "__init__" = some (some (.ref fiK)))
    (iiK : PySem.W.isFn K (.ref fiK) = true)
    (liK : K.lookup fiK = some ⟨ociK, odiK, .func (PySem.W.fnOf "__init__" "Kind.__init__" (defArgs sKindI) (defBody sKindI) (defScope sKindI) .none kViK dciK pmiK aniK cdiK ctiK), sliK⟩)
    (ciK : PySem.W.codeIn K cdiK "Kind.__init__" = true)
    (kiK : PySem.W.keepIn K (.ref fiK) = true)
    (gY : PySem.W.nsIn K mainGlobals "Yard" = some (some (.ref CY)))
    (pgY : PySem.W.plainGet K CY Str.empty = true)
    (hdY : PySem.W.hasDictIn K CY = true)
    (poY : PySem.W.plainOver K CY = true)
    (saY : PySem.W.findIn K (.ref CY) "__setattr__" = some (some (.builtin "object.__setattr__")))
    (mkY : PySem.W.makesIn K CY = true)
    (kcY : PySem.W.keepIn K (.ref CY) = true)
    (nyP : PySem.W.findIn K (.ref CY) "parts" = some none)
    (nyK : PySem.W.findIn K (.ref CY) "kinds" = some none)
    (nyO : PySem.W.findIn K (.ref CY) "ordered" = some none)
    (aiY : PySem.W.findIn K (.ref CY) "__init__" = some (some (.ref fiY)))
    (iiY : PySem.W.isFn K (.ref fiY) = true)
    (liY : K.lookup fiY = some ⟨ociY, odiY, .func (PySem.W.fnOf "__init__" "Yard.__init__" (defArgs sYardI) (defBody sYardI) (defScope sYardI) .none kViY dciY pmiY aniY cdiY ctiY), sliY⟩)
    (ciY : PySem.W.codeIn K cdiY "Yard.__init__" = true)
    (kiY : PySem.W.keepIn K (.ref fiY) = true)
    (gL : PySem.W.nsIn K mainGlobals "Log" = some (some (.ref CL)))
    (pgL : PySem.W.plainGet K CL Str.empty = true)
    (hdL : PySem.W.hasDictIn K CL = true)
    (poL : PySem.W.plainOver K CL = true)
    (saL : PySem.W.findIn K (.ref CL) "__setattr__" = some (some (.builtin "object.__setattr__")))
    (mkL : PySem.W.makesIn K CL = true)
    (kcL : PySem.W.keepIn K (.ref CL) = true)
    (nlP : PySem.W.findIn K (.ref CL) "place" = some none)
    (nlE : PySem.W.findIn K (.ref CL) "end" = some none)
    (nlN : PySem.W.findIn K (.ref CL) "number" = some none)
    (nlW : PySem.W.findIn K (.ref CL) "worth" = some none)
    (aiL : PySem.W.findIn K (.ref CL) "__init__" = some (some (.ref fiL)))
    (iiL : PySem.W.isFn K (.ref fiL) = true)
    (liL : K.lookup fiL = some ⟨ociL, odiL, .func (PySem.W.fnOf "__init__" "Log.__init__" (defArgs sLogI) (defBody sLogI) (defScope sLogI) .none kViL dciL pmiL aniL cdiL ctiL), sliL⟩)
    (ciL : PySem.W.codeIn K cdiL "Log.__init__" = true)
    (kiL : PySem.W.keepIn K (.ref fiL) = true)
    (gO : PySem.W.nsIn K mainGlobals "Outlook" = some (some (.ref CO)))
    (pgO : PySem.W.plainGet K CO Str.empty = true)
    (hdO : PySem.W.hasDictIn K CO = true)
    (poO : PySem.W.plainOver K CO = true)
    (saO : PySem.W.findIn K (.ref CO) "__setattr__" = some (some (.builtin "object.__setattr__")))
    (mkO : PySem.W.makesIn K CO = true)
    (kcO : PySem.W.keepIn K (.ref CO) = true)
    (noW : PySem.W.findIn K (.ref CO) "worth" = some none)
    (noM : PySem.W.findIn K (.ref CO) "ways" = some none)
    (noL : PySem.W.findIn K (.ref CO) "log" = some none)
    (aiO : PySem.W.findIn K (.ref CO) "__init__" = some (some (.ref fiO)))
    (iiO : PySem.W.isFn K (.ref fiO) = true)
    (liO : K.lookup fiO = some ⟨ociO, odiO, .func (PySem.W.fnOf "__init__" "Outlook.__init__" (defArgs sOutI) (defBody sOutI) (defScope sOutI) .none kViO dciO pmiO aniO cdiO ctiO), sliO⟩)
    (ciO : PySem.W.codeIn K cdiO "Outlook.__init__" = true)
    (kiO : PySem.W.keepIn K (.ref fiO) = true)
    (nPY : CP ≠ CY)
    (nKY : CK ≠ CY)
    (af0 : PySem.W.nsIn K mainGlobals "is_stem" = some (some (.ref ff0)))
    (lf0 : K.lookup ff0 = some ⟨ocf0, odf0, .func (PySem.W.fnOf "is_stem" "is_stem" (defArgs sIsStem) (defBody sIsStem) (defScope sIsStem) .none kVf0 dcf0 pmf0 anf0 cdf0 ctf0), slf0⟩)
    (cf0 : PySem.W.codeIn K cdf0 "is_stem" = true)
    (kf0 : PySem.W.keepIn K (.ref ff0) = true)
    (af1 : PySem.W.nsIn K mainGlobals "set_stem" = some (some (.ref ff1)))
    (lf1 : K.lookup ff1 = some ⟨ocf1, odf1, .func (PySem.W.fnOf "set_stem" "set_stem" (defArgs sSetStem) (defBody sSetStem) (defScope sSetStem) .none kVf1 dcf1 pmf1 anf1 cdf1 ctf1), slf1⟩)
    (cf1 : PySem.W.codeIn K cdf1 "set_stem" = true)
    (kf1 : PySem.W.keepIn K (.ref ff1) = true)
    (af2 : PySem.W.nsIn K mainGlobals "is_kind" = some (some (.ref ff2)))
    (lf2 : K.lookup ff2 = some ⟨ocf2, odf2, .func (PySem.W.fnOf "is_kind" "is_kind" (defArgs sIsKind) (defBody sIsKind) (defScope sIsKind) .none kVf2 dcf2 pmf2 anf2 cdf2 ctf2), slf2⟩)
    (cf2 : PySem.W.codeIn K cdf2 "is_kind" = true)
    (kf2 : PySem.W.keepIn K (.ref ff2) = true)
    (af3 : PySem.W.nsIn K mainGlobals "add_kind" = some (some (.ref ff3)))
    (lf3 : K.lookup ff3 = some ⟨ocf3, odf3, .func (PySem.W.fnOf "add_kind" "add_kind" (defArgs sAddKind) (defBody sAddKind) (defScope sAddKind) .none kVf3 dcf3 pmf3 anf3 cdf3 ctf3), slf3⟩)
    (cf3 : PySem.W.codeIn K cdf3 "add_kind" = true)
    (kf3 : PySem.W.keepIn K (.ref ff3) = true)
    (af4 : PySem.W.nsIn K mainGlobals "change_order" = some (some (.ref ff4)))
    (lf4 : K.lookup ff4 = some ⟨ocf4, odf4, .func (PySem.W.fnOf "change_order" "change_order" (defArgs sOrder) (defBody sOrder) (defScope sOrder) .none kVf4 dcf4 pmf4 anf4 cdf4 ctf4), slf4⟩)
    (cf4 : PySem.W.codeIn K cdf4 "change_order" = true)
    (kf4 : PySem.W.keepIn K (.ref ff4) = true)
    (af5 : PySem.W.nsIn K mainGlobals "may_be_cut" = some (some (.ref ff5)))
    (lf5 : K.lookup ff5 = some ⟨ocf5, odf5, .func (PySem.W.fnOf "may_be_cut" "may_be_cut" (defArgs sMayCut) (defBody sMayCut) (defScope sMayCut) .none kVf5 dcf5 pmf5 anf5 cdf5 ctf5), slf5⟩)
    (cf5 : PySem.W.codeIn K cdf5 "may_be_cut" = true)
    (kf5 : PySem.W.keepIn K (.ref ff5) = true)
    (af6 : PySem.W.nsIn K mainGlobals "cut_log" = some (some (.ref ff6)))
    (lf6 : K.lookup ff6 = some ⟨ocf6, odf6, .func (PySem.W.fnOf "cut_log" "cut_log" (defArgs sCutLog) (defBody sCutLog) (defScope sCutLog) .none kVf6 dcf6 pmf6 anf6 cdf6 ctf6), slf6⟩)
    (cf6 : PySem.W.codeIn K cdf6 "cut_log" = true)
    (kf6 : PySem.W.keepIn K (.ref ff6) = true)
    (af7 : PySem.W.nsIn K mainGlobals "count_waste" = some (some (.ref ff7)))
    (lf7 : K.lookup ff7 = some ⟨ocf7, odf7, .func (PySem.W.fnOf "count_waste" "count_waste" (defArgs sWaste) (defBody sWaste) (defScope sWaste) .none kVf7 dcf7 pmf7 anf7 cdf7 ctf7), slf7⟩)
    (cf7 : PySem.W.codeIn K cdf7 "count_waste" = true)
    (kf7 : PySem.W.keepIn K (.ref ff7) = true)
    (af8 : PySem.W.nsIn K mainGlobals "logs_from" = some (some (.ref ff8)))
    (lf8 : K.lookup ff8 = some ⟨ocf8, odf8, .func (PySem.W.fnOf "logs_from" "logs_from" (defArgs sLogsFrom) (defBody sLogsFrom) (defScope sLogsFrom) .none kVf8 dcf8 pmf8 anf8 cdf8 ctf8), slf8⟩)
    (cf8 : PySem.W.codeIn K cdf8 "logs_from" = true)
    (kf8 : PySem.W.keepIn K (.ref ff8) = true)
    (af9 : PySem.W.nsIn K mainGlobals "stock_steps" = some (some (.ref ff9)))
    (lf9 : K.lookup ff9 = some ⟨ocf9, odf9, .func (PySem.W.fnOf "stock_steps" "stock_steps" (defArgs sSteps) (defBody sSteps) (defScope sSteps) .none kVf9 dcf9 pmf9 anf9 cdf9 ctf9), slf9⟩)
    (cf9 : PySem.W.codeIn K cdf9 "stock_steps" = true)
    (kf9 : PySem.W.keepIn K (.ref ff9) = true)
    (af10 : PySem.W.nsIn K mainGlobals "in_stock" = some (some (.ref ff10)))
    (lf10 : K.lookup ff10 = some ⟨ocf10, odf10, .func (PySem.W.fnOf "in_stock" "in_stock" (defArgs sInStock) (defBody sInStock) (defScope sInStock) .none kVf10 dcf10 pmf10 anf10 cdf10 ctf10), slf10⟩)
    (cf10 : PySem.W.codeIn K cdf10 "in_stock" = true)
    (kf10 : PySem.W.keepIn K (.ref ff10) = true)
    (af11 : PySem.W.nsIn K mainGlobals "outlook_at" = some (some (.ref ff11)))
    (lf11 : K.lookup ff11 = some ⟨ocf11, odf11, .func (PySem.W.fnOf "outlook_at" "outlook_at" (defArgs sOutAt) (defBody sOutAt) (defScope sOutAt) .none kVf11 dcf11 pmf11 anf11 cdf11 ctf11), slf11⟩)
    (cf11 : PySem.W.codeIn K cdf11 "outlook_at" = true)
    (kf11 : PySem.W.keepIn K (.ref ff11) = true)
    (af12 : PySem.W.nsIn K mainGlobals "all_outlooks" = some (some (.ref ff12)))
    (lf12 : K.lookup ff12 = some ⟨ocf12, odf12, .func (PySem.W.fnOf "all_outlooks" "all_outlooks" (defArgs sAllOut) (defBody sAllOut) (defScope sAllOut) .none kVf12 dcf12 pmf12 anf12 cdf12 ctf12), slf12⟩)
    (cf12 : PySem.W.codeIn K cdf12 "all_outlooks" = true)
    (kf12 : PySem.W.keepIn K (.ref ff12) = true)
    (af13 : PySem.W.nsIn K mainGlobals "earliest_logs" = some (some (.ref ff13)))
    (lf13 : K.lookup ff13 = some ⟨ocf13, odf13, .func (PySem.W.fnOf "earliest_logs" "earliest_logs" (defArgs sEarly) (defBody sEarly) (defScope sEarly) .none kVf13 dcf13 pmf13 anf13 cdf13 ctf13), slf13⟩)
    (cf13 : PySem.W.codeIn K cdf13 "earliest_logs" = true)
    (kf13 : PySem.W.keepIn K (.ref ff13) = true)
    (af14 : PySem.W.nsIn K mainGlobals "find_best" = some (some (.ref ff14)))
    (lf14 : K.lookup ff14 = some ⟨ocf14, odf14, .func (PySem.W.fnOf "find_best" "find_best" (defArgs sBest) (defBody sBest) (defScope sBest) .none kVf14 dcf14 pmf14 anf14 cdf14 ctf14), slf14⟩)
    (cf14 : PySem.W.codeIn K cdf14 "find_best" = true)
    (kf14 : PySem.W.keepIn K (.ref ff14) = true)
    (af15 : PySem.W.nsIn K mainGlobals "cutting_of" = some (some (.ref ff15)))
    (lf15 : K.lookup ff15 = some ⟨ocf15, odf15, .func (PySem.W.fnOf "cutting_of" "cutting_of" (defArgs sCutting) (defBody sCutting) (defScope sCutting) .none kVf15 dcf15 pmf15 anf15 cdf15 ctf15), slf15⟩)
    (cf15 : PySem.W.codeIn K cdf15 "cutting_of" = true)
    (kf15 : PySem.W.keepIn K (.ref ff15) = true)
    (af16 : PySem.W.nsIn K mainGlobals "check_logs" = some (some (.ref ff16)))
    (lf16 : K.lookup ff16 = some ⟨ocf16, odf16, .func (PySem.W.fnOf "check_logs" "check_logs" (defArgs sCheck) (defBody sCheck) (defScope sCheck) .none kVf16 dcf16 pmf16 anf16 cdf16 ctf16), slf16⟩)
    (cf16 : PySem.W.codeIn K cdf16 "check_logs" = true)
    (kf16 : PySem.W.keepIn K (.ref ff16) = true)
    (af17 : PySem.W.nsIn K mainGlobals "find_more" = some (some (.ref ff17)))
    (lf17 : K.lookup ff17 = some ⟨ocf17, odf17, .func (PySem.W.fnOf "find_more" "find_more" (defArgs sMore) (defBody sMore) (defScope sMore) .none kVf17 dcf17 pmf17 anf17 cdf17 ctf17), slf17⟩)
    (cf17 : PySem.W.codeIn K cdf17 "find_more" = true)
    (kf17 : PySem.W.keepIn K (.ref ff17) = true)
    (af18 : PySem.W.nsIn K mainGlobals "list_places" = some (some (.ref ff18)))
    (lf18 : K.lookup ff18 = some ⟨ocf18, odf18, .func (PySem.W.fnOf "list_places" "list_places" (defArgs sPlaces) (defBody sPlaces) (defScope sPlaces) .none kVf18 dcf18 pmf18 anf18 cdf18 ctf18), slf18⟩)
    (cf18 : PySem.W.codeIn K cdf18 "list_places" = true)
    (kf18 : PySem.W.keepIn K (.ref ff18) = true)
    (af19 : PySem.W.nsIn K mainGlobals "answer_call" = some (some (.ref ff19)))
    (lf19 : K.lookup ff19 = some ⟨ocf19, odf19, .func (PySem.W.fnOf "answer_call" "answer_call" (defArgs sCall) (defBody sCall) (defScope sCall) .none kVf19 dcf19 pmf19 anf19 cdf19 ctf19), slf19⟩)
    (cf19 : PySem.W.codeIn K cdf19 "answer_call" = true)
    (kf19 : PySem.W.keepIn K (.ref ff19) = true)
    (af20 : PySem.W.nsIn K mainGlobals "answers" = some (some (.ref ff20)))
    (lf20 : K.lookup ff20 = some ⟨ocf20, odf20, .func (PySem.W.fnOf "answers" "answers" (defArgs sAnswers) (defBody sAnswers) (defScope sAnswers) .none kVf20 dcf20 pmf20 anf20 cdf20 ctf20), slf20⟩)
    (cf20 : PySem.W.codeIn K cdf20 "answers" = true)
    (kf20 : PySem.W.keepIn K (.ref ff20) = true)
    (vcStem : PySem.W.nsIn K mainGlobals "CALL_STEM" = some (some (.int 0 tcStem)))
    (vcKind : PySem.W.nsIn K mainGlobals "CALL_KIND" = some (some (.int 1 tcKind)))
    (vcOrder : PySem.W.nsIn K mainGlobals "CALL_ORDER" = some (some (.int 2 tcOrder)))
    (vcBest : PySem.W.nsIn K mainGlobals "CALL_BEST" = some (some (.int 3 tcBest)))
    (vcCheck : PySem.W.nsIn K mainGlobals "CALL_CHECK" = some (some (.int 4 tcCheck)))
    (vcMore : PySem.W.nsIn K mainGlobals "CALL_MORE" = some (some (.int 5 tcMore)))
    (vcTold : PySem.W.nsIn K mainGlobals "NOT_AS_TOLD" = some (some (.int (-1) tcTold)))
    (vcNoKind : PySem.W.nsIn K mainGlobals "NO_SUCH_KIND" = some (some (.int (-2) tcNoKind)))
    (vcNoMore : PySem.W.nsIn K mainGlobals "NO_MORE_KINDS" = some (some (.int (-5) tcNoMore)))
    (vcNoCut : PySem.W.nsIn K mainGlobals "NO_CUTTING" = some (some (.int (-6) tcNoCut)))
    (vcParts : PySem.W.nsIn K mainGlobals "MOST_PARTS" = some (some (.int 40 tcParts)))
    (vcThick : PySem.W.nsIn K mainGlobals "MOST_THICKNESS" = some (some (.int 100 tcThick)))
    (vcGrade : PySem.W.nsIn K mainGlobals "WORST_GRADE" = some (some (.int 9 tcGrade)))
    (vcKinds : PySem.W.nsIn K mainGlobals "MOST_KINDS" = some (some (.int 3 tcKinds)))
    (vcMost : PySem.W.nsIn K mainGlobals "MOST_ORDERED" = some (some (.int 4 tcMost)))
    (vcRow : PySem.W.nsIn K mainGlobals "CALLS_WITH_A_ROW" = some (some (.ref Arw)))
    (vtRow : K.lookup Arw = some ⟨.type "tuple", odrw, .seq #[.int 0 trw0, .int 4 trw1] nrw, slrw⟩)
    (vcLeast : PySem.W.nsIn K mainGlobals "LEAST_OF_KIND" = some (some (.ref Alo)))
    (vtLeast : K.lookup Alo = some ⟨.type "tuple", odlo, .seq #[.int 1 tlo0, .int 0 tlo1, .int 0 tlo2, .int 0 tlo3, .int 0 tlo4] nlo, sllo⟩)
    (vcLargest : PySem.W.nsIn K mainGlobals "MOST_OF_KIND" = some (some (.ref Ahi)))
    (vtLargest : K.lookup Ahi = some ⟨.type "tuple", odhi, .seq #[.int 40 thi0, .int 100 thi1, .int 9 thi2, .int 1000 thi3, .int 4 thi4] nhi, slhi⟩)
    (vcWhole : PySem.W.nsIn K mainGlobals "WHOLE_NUMBERS" = some (some (.ref Awn)))
    (vdWhole : K.lookup Awn = some ⟨.type "dict", none, .dict eswn nwn, #[]⟩)
    (wdWhole : intDict eswn = true)
    (wwn1 : findBy Value.isInt eswn 1 = some (.int 5 twn1))
    (wwn2 : findBy Value.isInt eswn 2 = some (.int 2 twn2))
    (wwn3 : findBy Value.isInt eswn 3 = some (.int 0 twn3))
    (wwn5 : findBy Value.isInt eswn 5 = some (.int 1 twn5))
    (wwn6 : findBy Value.isInt eswn 6 = some (.int 0 twn6))
    (blen : PySem.W.nsIn K mainGlobals "len" = some none)
    (brange : PySem.W.nsIn K mainGlobals "range" = some none)
    (bzip : PySem.W.nsIn K mainGlobals "zip" = some none)
    (ball : PySem.W.nsIn K mainGlobals "all" = some none)
    (bsum : PySem.W.nsIn K mainGlobals "sum" = some none)
    (blist : PySem.W.nsIn K mainGlobals "list" = some none)
    : ∃ fd : FuncData, (∀ (s : Shared) (us : List Value), us.length = (["calls"] : List Str).length → BindsTo s fd ⟨us, []⟩ ((["calls"] : List Str).zip us)) ∧ ∀ base : Heap, K.In base → base.Ns mainGlobals mg → FnOk P w K mg base CX0 8 fa fd ["calls"] (spAnswers K) := by
  obtain ⟨c, T⟩ := top_mk X G gP pgP hdP poP saP mkP kcP npT npG aiP iiP liP ciP kiP gK pgK hdK poK saK mkK kcK nkL nkT nkG nkP aiK iiK liK ciK kiK gY pgY hdY poY saY mkY kcY nyP nyK nyO aiY iiY liY ciY kiY gL pgL hdL poL saL mkL kcL nlP nlE nlN nlW aiL iiL liL ciL kiL gO pgO hdO poO saO mkO kcO noW noM noL aiO iiO liO ciO kiO nPY nKY af0 lf0 cf0 kf0 af1 lf1 cf1 kf1 af2 lf2 cf2 kf2 af3 lf3 cf3 kf3 af4 lf4 cf4 kf4 af5 lf5 cf5 kf5 af6 lf6 cf6 kf6 af7 lf7 cf7 kf7 af8 lf8 cf8 kf8 af9 lf9 cf9 kf9 af10 lf10 cf10 kf10 af11 lf11 cf11 kf11 af12 lf12 cf12 kf12 af13 lf13 cf13 kf13 af14 lf14 cf14 kf14 af15 lf15 cf15 kf15 af16 lf16 cf16 kf16 af17 lf17 cf17 kf17 af18 lf18 cf18 kf18 af19 lf19 cf19 kf19 af20 lf20 cf20 kf20 vcStem vcKind vcOrder vcBest vcCheck vcMore vcTold vcNoKind vcNoMore vcNoCut vcParts vcThick vcGrade vcKinds vcMost vcRow vtRow vcLeast vtLeast vcLargest vtLargest vcWhole vdWhole wdWhole wwn1 wwn2 wwn3 wwn5 wwn6 blen brange bzip ball bsum blist
  exact f_end T hfa
end LC
open PySem PySem.W PyProof.Rows
set_option maxRecDepth 100000 in
set_option maxHeartbeats 0 in
theorem PySem.Challenge.cw_logcuts_s01_answers_holds : PySem.Challenge.rw_logcuts_s01_answers.Holds := by
  w_on; k_headS; (case hw => exact ⟨[.list [.int 3]], by decide +kernel, by decide +kernel⟩)
  k_fillS
  refine L2.walk_specK (r := PySem.Challenge.rw_logcuts_s01_answers) (k := 8) (CX := L2.CX0) (ps := ["calls"]) (sp := LC.spAnswers) (by decide +kernel) rfl rfl ⟨rfl, by decide, by decide⟩ (fun w h Y => PySem.W.kIn_of Y) ?F ?S (fun _ _ _ _ z => z)
  case F =>

    intro w mg fa h Y KX G hmg
    refine' LC.f_case KX G hmg ?gP ?pgP ?hdP ?poP ?saP ?mkP ?kcP ?npT ?npG ?aiP ?iiP ?liP ?ciP ?kiP ?gK ?pgK ?hdK ?poK ?saK ?mkK ?kcK ?nkL ?nkT ?nkG ?nkP ?aiK ?iiK ?liK ?ciK ?kiK ?gY ?pgY ?hdY ?poY ?saY ?mkY ?kcY ?nyP ?nyK ?nyO ?aiY ?iiY ?liY ?ciY ?kiY ?gL ?pgL ?hdL ?poL ?saL ?mkL ?kcL ?nlP ?nlE ?nlN ?nlW ?aiL ?iiL ?liL ?ciL ?kiL ?gO ?pgO ?hdO ?poO ?saO ?mkO ?kcO ?noW ?noM ?noL ?aiO ?iiO ?liO ?ciO ?kiO ?nPY ?nKY ?af0 ?lf0 ?cf0 ?kf0 ?af1 ?lf1 ?cf1 ?kf1 ?af2 ?lf2 ?cf2 ?kf2 ?af3 ?lf3 ?cf3 ?kf3 ?af4 ?lf4 ?cf4 ?kf4 ?af5 ?lf5 ?cf5 ?kf5 ?af6 ?lf6 ?cf6 ?kf6 ?af7 ?lf7 ?cf7 ?kf7 ?af8 ?lf8 ?cf8 ?kf8 ?af9 ?lf9 ?cf9 ?kf9 ?af10 ?lf10 ?cf10 ?kf10 ?af11 ?lf11 ?cf11 ?kf11 ?af12 ?lf12 ?cf12 ?kf12 ?af13 ?lf13 ?cf13 ?kf13 ?af14 ?lf14 ?cf14 ?kf14 ?af15 ?lf15 ?cf15 ?kf15 ?af16 ?lf16 ?cf16 ?kf16 ?af17 ?lf17 ?cf17 ?kf17 ?af18 ?lf18 ?cf18 ?kf18 ?af19 ?lf19 ?cf19 ?kf19 ?af20 ?lf20 ?cf20 ?kf20 ?vcStem ?vcKind ?vcOrder ?vcBest ?vcCheck ?vcMore ?vcTold ?vcNoKind ?vcNoMore ?vcNoCut ?vcParts ?vcThick ?vcGrade ?vcKinds ?vcMost ?vcRow ?vtRow ?vcLeast ?vtLeast ?vcLargest ?vtLargest ?vcWhole ?vdWhole ?wdWhole ?wwn1 ?wwn2 ?wwn3 ?wwn5 ?wwn6 ?blen ?brange ?bzip ?ball ?bsum ?blist
    (case gP => k_is)
    (case pgP => k_is)
    (case hdP => k_is)
    (case poP => k_is)
    (case saP => k_is)
    (case mkP => k_is)
    (case kcP => k_is)
    (case npT => k_is)
    (case npG => k_is)
    (case aiP => k_is)
    (case iiP => k_is)
    (case liP => k_is)
    (case ciP => k_is)
    (case kiP => k_is)
    (case gK => k_is)
    (case pgK => k_is)
    (case hdK => k_is)
    (case poK => k_is)
    (case saK => k_is)
    (case mkK => k_is)
    (case kcK => k_is)
    (case nkL => k_is)
    (case nkT => k_is)
    (case nkG => k_is)
    (case nkP => k_is)
    (case aiK => k_is)
    (case iiK => k_is)
    (case liK => k_is)
    (case ciK => k_is)
    (case kiK => k_is)
    (case gY => k_is)
    (case pgY => k_is)
    (case hdY => k_is)
    (case poY => k_is)
    (case saY => k_is)
    (case mkY => k_is)
    (case kcY => k_is)
    (case nyP => k_is)
    (case nyK => k_is)
    (case nyO => k_is)
    (case aiY => k_is)
    (case iiY => k_is)
    (case liY => k_is)
    (case ciY => k_is)
    (case kiY => k_is)
    (case gL => k_is)
    (case pgL => k_is)
    (case hdL => k_is)
    (case poL => k_is)
    (case saL => k_is)
    (case mkL => k_is)
    (case kcL => k_is)
    (case nlP => k_is)
    (case nlE => k_is)
    (case nlN => k_is)
    (case nlW => k_is)
    (case aiL => k_is)
    (case iiL => k_is)
    (case liL => k_is)
    (case ciL => k_is)
    (case kiL => k_is)
    (case gO => k_is)
    (case pgO => k_is)
    (case hdO => k_is)
    (case poO => k_is)
    (case saO => k_is)
    (case mkO => k_is)
    (case kcO => k_is)
    (case noW => k_is)
    (case noM => k_is)
    (case noL => k_is)
    (case aiO => k_is)
    (case iiO => k_is)
    (case liO => k_is)
    (case ciO => k_is)
    (case kiO => k_is)
    (case nPY => decide)
    (case nKY => decide)
    (case af0 => k_is)
    (case lf0 => k_is)
    (case cf0 => k_is)
    (case kf0 => k_is)
    (case af1 => k_is)
    (case lf1 => k_is)
    (case cf1 => k_is)
    (case kf1 => k_is)
    (case af2 => k_is)
    (case lf2 => k_is)
    (case cf2 => k_is)
    (case kf2 => k_is)
    (case af3 => k_is)
    (case lf3 => k_is)
    (case cf3 => k_is)
    (case kf3 => k_is)
    (case af4 => k_is)
    (case lf4 => k_is)
    (case cf4 => k_is)
    (case kf4 => k_is)
    (case af5 => k_is)
    (case lf5 => k_is)
    (case cf5 => k_is)
    (case kf5 => k_is)
    (case af6 => k_is)
    (case lf6 => k_is)
    (case cf6 => k_is)
    (case kf6 => k_is)
    (case af7 => k_is)
    (case lf7 => k_is)
    (case cf7 => k_is)
    (case kf7 => k_is)
    (case af8 => k_is)
    (case lf8 => k_is)
    (case cf8 => k_is)
    (case kf8 => k_is)
    (case af9 => k_is)
    (case lf9 => k_is)
    (case cf9 => k_is)
    (case kf9 => k_is)
    (case af10 => k_is)
    (case lf10 => k_is)
    (case cf10 => k_is)
    (case kf10 => k_is)
    (case af11 => k_is)
    (case lf11 => k_is)
    (case cf11 => k_is)
    (case kf11 => k_is)
    (case af12 => k_is)
    (case lf12 => k_is)
    (case cf12 => k_is)
    (case kf12 => k_is)
    (case af13 => k_is)
    (case lf13 => k_is)
    (case cf13 => k_is)
    (case kf13 => k_is)
    (case af14 => k_is)
    (case lf14 => k_is)
    (case cf14 => k_is)
    (case kf14 => k_is)
    (case af15 => k_is)
    (case lf15 => k_is)
    (case cf15 => k_is)
    (case kf15 => k_is)
    (case af16 => k_is)
    (case lf16 => k_is)
    (case cf16 => k_is)
    (case kf16 => k_is)
    (case af17 => k_is)
    (case lf17 => k_is)
    (case cf17 => k_is)
    (case kf17 => k_is)
    (case af18 => k_is)
    (case lf18 => k_is)
    (case cf18 => k_is)
    (case kf18 => k_is)
    (case af19 => k_is)
    (case lf19 => k_is)
    (case cf19 => k_is)
    (case kf19 => k_is)
    (case af20 => k_is)
    (case lf20 => k_is)
    (case cf20 => k_is)
    (case kf20 => k_is)
    (case vcStem => k_is)
    (case vcKind => k_is)
    (case vcOrder => k_is)
    (case vcBest => k_is)
    (case vcCheck => k_is)
    (case vcMore => k_is)
    (case vcTold => k_is)
    (case vcNoKind => k_is)
    (case vcNoMore => k_is)
    (case vcNoCut => k_is)
    (case vcParts => k_is)
    (case vcThick => k_is)
    (case vcGrade => k_is)
    (case vcKinds => k_is)
    (case vcMost => k_is)
    (case vcRow => k_is)
    (case vtRow => k_is)
    (case vcLeast => k_is)
    (case vtLeast => k_is)
    (case vcLargest => k_is)
    (case vtLargest => k_is)
    (case vcWhole => k_is)
    (case vdWhole => k_is)
    (case wdWhole => decide +kernel)
    (case wwn1 => rfl)
    (case wwn2 => rfl)
    (case wwn3 => rfl)
    (case wwn5 => rfl)
    (case wwn6 => rfl)
    (case blen => k_is)
    (case brange => k_is)
    (case bzip => k_is)
    (case ball => k_is)
    (case bsum => k_is)
    (case blist => k_is)
  case S =>
    intro K H xs a hO hwi hask hx
    cases hx with
    | cons h1 h2 =>
      cases h2
      cases h1 with
      | lst hs ha =>
        have e := L2.ints_dw a.1 _ ha
        subst e
        exact ⟨_, a.1, rfl, hs, hask, fun H' p hp => .lst (L2.SqL.of hp) (L2.dw_ints _)⟩
